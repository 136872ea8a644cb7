/- Parts of the proof. -/
import Derived.Shelf.Spec.SlicesInsertGrow
import Derived.Test.YtecneflbncjhpaaGreatDoorQp14
import Derived.Test.YtecneflbncjhpaaGreatDoorQp11
namespace Go.Proofs
open Go.Shelf
def Tryz.Lm:Go.Shelf.Ren:=⟨fun|10=>252|6=>241|n=>n,fun|22=>22|23=>3|25=>112|3=>3|4=>4|0=>0|n=>n,fun|n=>n⟩
theorem Tryz.a1B:Go.Proofs.SlLaysH.n10 prog Tryz.Lm:={
 mixed:=by kernel_rfl
 f6:=⟨Tryz.f241.name,by decide,func241.trans (congrArg some (by kernel_rfl))⟩
 f10:=⟨Tryz.f252.name,by decide,func252.trans (congrArg some (by kernel_rfl))⟩
 t0:=underlying0
 a0:=Tryz.isAgg0
 z0:=Tryz.sizeOf0
 v0:=Tryz.zeroValue0
 t3:=underlying3
 a3:=Tryz.isAgg3
 z3:=Tryz.sizeOf3
 v3:=Tryz.zeroValue3
 t4:=underlying4
 a4:=Tryz.isAgg4
 z4:=Tryz.sizeOf4
 v4:=Tryz.zeroValue4
 t22:=underlying22
 a22:=Tryz.isAgg22
 z22:=Tryz.sizeOf22
 v22:=Tryz.zeroValue22
 a23:=Tryz.isAgg3
 z23:=Tryz.sizeOf3
 t25:=underlying112
 a25:=Tryz.isAgg112
 z25:=Tryz.sizeOf112
 v25:=Tryz.zeroValue112}
def Tryz.pM:Go.Shelf.Ren:=⟨fun|21=>207|27=>250|28=>251|35=>283|39=>301|n=>n,fun|22=>22|3=>3|4=>4|0=>0|n=>n,fun|n=>n⟩
theorem Tryz.wN:Go.Proofs.Lays2.n21 prog Tryz.pM:={
 mixed:=by kernel_rfl
 f21:=func207.trans (congrArg some (by kernel_rfl))
 f27:=func250.trans (congrArg some (by kernel_rfl))
 f28:=func251.trans (congrArg some (by kernel_rfl))
 f35:=func283.trans (congrArg some (by kernel_rfl))
 f39:=func301.trans (congrArg some (by kernel_rfl))
 t0:=underlying0
 a0:=Tryz.isAgg0
 z0:=Tryz.sizeOf0
 v0:=Tryz.zeroValue0
 t3:=underlying3
 a3:=Tryz.isAgg3
 z3:=Tryz.sizeOf3
 v3:=Tryz.zeroValue3
 t4:=underlying4
 a4:=Tryz.isAgg4
 z4:=Tryz.sizeOf4
 v4:=Tryz.zeroValue4
 t22:=underlying22
 a22:=Tryz.isAgg22
 z22:=Tryz.sizeOf22
 v22:=Tryz.zeroValue22
 i3:=by kernel_rfl}
end Go.Proofs
namespace Go.Proofs.YtecneflbncjhpaaGreatDoor
open Go.Proofs.Tryz
set_option maxHeartbeats 2000000
section
open Go.RowKit
def XO (W:ag)(done:List (Int×Int))(Wc:ag):Prop:=Below W.heap.size W Wc/\∃o k,Wc.heap[W.heap.size]? =some (.cells #[.slice o done.length k] 22)/\Wc.ownsRow (W.heap.size+1) 3 1 (.slice o done.length k) done.length (aU (done.map Prod.fst))
theorem gather (W:ag)(done:List (Int×Int))(Wc:ag)(i d:Int)(h:XO W done Wc)(hl:done.length<1000000):
  au 153 (#[aa i,aa d]++#[ay W.heap.size]) Wc fun e w'=>e=.returned (.tuple #[])/\XO W (done++[(i,d)]) w':=by
 obtain⟨hb,o,k,hc,ho⟩:=h;obtain⟨i0,hi0,hz0,hz1,hz2⟩:=info_parts sI;have c0:=aD hc 0 _ rfl;have hlt:=aI hc;have b1:=bT Wc (.cells #[aa i] 3);have H0:=dw Wc #[aa i] 3;have HB:=aj hb;clear hb;obtain⟨PL,hPL⟩:∃PL,W.heap.size=PL:=⟨_,rfl⟩;rw[hPL] at hc ho c0 hlt⊢;show au 153 #[aa i,aa d,ay PL] Wc _;go_enter func153,ntmps153;go_wp2_with(at_builtin;refine wpList_append_own_at _ rfl _ _ 22 rfl (PL+1) 3 i0 (aa 0) 1 8 underlying22 hi0 hz0 hz1 hz2 rfl (by decide) _ _ _ rfl (World.ownsRow.alloc ho _) ⟨Wc.heap.size,0,none⟩ 1 1 [aa i] rfl rfl (World.news_of_block H0) (fun u hu=>by simp at hu;rcases hu with rfl;rfl) (by rw[bq];omega) (by omega) (by simp;omega) ?_;intro v7 w7 kN jS _ Es;obtain⟨o7,k7,rfl⟩:=aM kN;have e7:=(jS.block PL (bI hlt b1.size) (own_ne ho (Nat.lt_succ_self PL))).trans ((b1.block PL hlt).trans hc);have c7:=aD e7 0 _ rfl;have f7:=aR e7);refine bodyPost_end (results_none rfl _ _ _) rfl ⟨rfl,?_,o7,k7,?_,?_⟩
 ·have h7:Below PL W w7:=by
   have hb:=HB.out;rw[hPL] at hb;refine⟨jS.os.trans (b1.os.trans hb.os),jS.tape.trans (b1.tape.trans hb.tape),jS.output.trans (b1.output.trans hb.output),aJ hb.size (aJ b1.size jS.size),fun j hj=>?_⟩;exact(jS.block j (by have:=b1.size;omega) (own_ne ho (by omega))).trans ((b1.block j (by omega)).trans (hb.block j hj))
  rw[hPL];exact h7.setCell ai _
 ·rw[hPL,heap_setCell_same w7 PL 0 _ _ _ e7];simp
 ·rw[hPL];have:=bS (w':=w7.setCell ⟨PL,0,none⟩ (.slice o7 (done.length+1) k7)) kN fun g hg=>aY _ _ _ g (fun e1=>by have:=(kN.lt g hg).1;simp only at e1;omega);rw[List.map_append,FW,List.length_append];exact this
def dG (M:Dm)(f:Nat)(n:Int):List Int:=(pre M f n 1).map Prod.fst
theorem Lp {B:Nat}{tg:bP}{W:ag}{DB MB:Nat}{p:Int->Option Nat}{M:Dm}{nx c:Nat}(hd:aX B tg W DB MB p M nx c)(f:Nat)(n:Int)(hf:f<=900000)(hp:Dp M f n)(hn:dR n)(hl:(dG M f n).length<=1000000):
  au 102 #[ay DB,aa n] W fun e w'=>∃o k,e=.returned (.slice o (dG M f n).length k)/\Below W.heap.size W w'/\w'.ownsRow (W.heap.size+1) 3 1 (.slice o (dG M f n).length k) (dG M f n).length (aU (dG M f n)):=by
 have HW:=FY hd _ (qR _ _ func153 (by kernel_rfl) (by kernel_rfl)) #[ay W.heap.size] (XO W) (fun done Wc h=>⟨fun b t ht=>h.1.block b (hd.low b t ht).2,h.1.size⟩) (fun done Wc i d h hl=>gather W done Wc i d h hl) f n 1 [] (W.alloc (.cells #[.slice none 0 0] 22)) hp hn (by decide) (by omega) (by rw[List.length_nil];unfold dG at hl;rw[List.length_map] at hl;omega) ⟨bT W _,none,0,dw W _ _,eH _ _ _ _⟩;rw[List.nil_append] at HW;have hlm:(dG M f n).length=(pre M f n 1).length:=List.length_map ..;go_enter func102,ntmps102;go_wp2_with(go_at_call 152;refine HW.mono ?_;rintro e w1 ⟨rfl,h1⟩;obtain⟨hb1,o,k,hc1,ho1⟩:=h1;have c1:=aD hc1 0 _ rfl);go_ret;exact⟨o,k,by rw[hlm];rfl,hb1,by rw[hlm];exact ho1⟩
theorem uz (n x:Int)(PN:Nat)(W:ag)(hc:W.cell? (ak PN 0)=some (aa n)):FnGives prog 253 #[ay PN] #[aa x] (.bool (decide (x=n))) W:=by
 show au 253 #[aa x,ay PN] W _;go_enter func253,ntmps253;go_wp2
 all_goals(go_ret;exact⟨by first|(simp_all;done)|(simp_all;rfl),0,rfl⟩)
theorem U7 {w:ag}{blk:Nat}{cur:Array ah}{t:TypeId}(enc:Int->ah)(d:Array Int)(h:w.heap[blk]? =some (.cells cur t)):(Sort.putRow enc w blk 0 d).heap[blk]? =some (.cells (Sort.putCells enc 0 d cur) t):=by
 simp[Sort.putRow,Sort.mapBlock,Array.getElem?_modify,h,Sort.onCells]
theorem Oi {w:ag}{blk x:Nat}(enc:Int->ah)(d:Array Int)(h:x≠blk):(Sort.putRow enc w blk 0 d).heap[x]? =w.heap[x]? :=by
 simp[Sort.putRow,Sort.mapBlock,Array.getElem?_modify,Ne.symm h]
theorem Et (F R:List Int)(cur:Array ah)(h:F.length<=cur.size):(Sort.putCells (Value.int .i64) 0 (F++R).toArray cur).toList.take F.length=aU F:=by
 apply List.ext_getElem?;intro k;rw[List.getElem?_take];unfold aU;rw[List.getElem?_map];split
 ·rename_i hk;have hkc:k<cur.size:=by omega
  rw[Array.getElem?_toList];unfold Sort.putCells;rw[Array.getElem?_mapIdx,Array.getElem?_eq_getElem hkc,Option.map_some,if_pos ⟨aP _,by simp;omega⟩];rw[dK hk,Option.map_some,Nat.sub_zero];congr 2;rw[getElem!_pos _ k (by simp;omega)];simp[List.getElem_append_left hk]
 ·rename_i hk;rw[List.getElem?_eq_none (by omega)];rfl
theorem ady {B:Nat}{W:ag}{v:ah}{L:List Int}{n:Int}{PN:Nat}(ho:W.ownsRow B 3 1 v L.length (aU L))(hL:L≠[])(hc:W.cell? (ak PN 0)=some (aa n))(hne:v.ownBlock≠some PN):
    au 252 #[v,.func (.func 253) #[] #[ay PN]] W fun e w'=>∃o k,e=.returned (.slice o (L.filter (fun x=> !decide (x=n))).length k)/\w'.ownsRow B 3 1 (.slice o (L.filter (fun x=> !decide (x=n))).length k) (L.filter (fun x=> !decide (x=n))).length (aU (L.filter (fun x=> !decide (x=n))))/\(Value.slice o (L.filter (fun x=> !decide (x=n))).length k).ownBlock=v.ownBlock/\W.grownBy w' v.ownBlock:=by
  have hl:=QT ho;obtain⟨h1,h2⟩:=ho;rcases h2 with⟨-,h2⟩|⟨g,cap,cur,rfl,h3,h4,h5,h6,h7,h8⟩
  · exact absurd (iC.1 h2) hL
  have hgn:g≠PN:=fun e=>hne (by rw[e];rfl);have hH:Sort.Holds (Value.int .i64) W g 0 L.toArray:=fun j hj=>by
    have hj':j<L.length:=by simpa using hj
    refine⟨?_,aR h4 _⟩;rw[Nat.zero_add];refine aD h4 j _ ?_;have hx:(aU L)[j]? =some (aa L[j]):=og (dK hj');rw[<- h8,Nat.mul_one,List.getElem?_take,if_pos hj',Array.getElem?_toList] at hx;rw[hx,getElem!_pos _ j hj];simp
  have hD:=AnyE.slices_DeleteFunc Tryz.a1B (Value.int .i64) (fun _=>rfl) (fun x=>decide (x=n)) 253 #[ay PN] (fun args w=>by kernel_rfl) 0 (fun w=>Tryz.zeroValue3 w) g 0 cap L.toArray W
    (fun W' x hb=>uz n x PN W' ((hb.cell (az hc)).trans hc))
    (fun m os dk x _=>uz n x PN _ (by
      unfold sortWorld;rw[Sort.cell?_grow _ _ _ (by show PN<(Sort.putRow _ _ _ _ _).heap.size;rw[Sort.size_putRow];exact az hc),Sort.cell?_putRow_other _ _ g 0 _ _ (Or.inl (fun e=>hgn e.symm))];exact hc)) hH (by simpa using hl) (by simpa using h5)
  have hs:L.toArray.size=L.length:=by simp
  rw[hs] at hD;refine hD.mono fun e w' ⟨he,q,hw⟩=>?_;have hF:(L.filter (fun x=> !decide (x=n))).length<=L.length:=List.length_filter_le _ _;refine⟨some ⟨g,0,none⟩,cap,he,?_,rfl,?_⟩
  · rw[hw]
    refine⟨by rw[o8,Nat.mul_one],.inr ⟨g,cap,_,rfl,h3,U7 (w:=Sort.ahead W q) _ _ h4,by omega,h6,?_,?_⟩⟩
    · unfold Sort.putCells
      rw[Array.size_mapIdx];exact h7
    · rw[Nat.mul_one]
      exact Et _ _ cur (by omega)
  · rw[hw]
    exact⟨rfl,rfl,rfl,by rw[Sort.size_putRow];exact Nat.le_refl _,fun x _ hx=>Oi _ _ (fun e1=>hx (by rw[e1];rfl))⟩
end
section
open Go
def Eu:Bs:=[98,111,120]
def uA:Bs:=[112,111,108,121]
def nH:Bs:=[103,114,111,117,112]
def Lr:Bs:=[117,115,101]
def kNo:Bs:=[110,111]
def uB:Bs:=[110,111,110,101]
def zx:Bs:=[109,111,118,101]
def wO:Bs:=[112,111,105,110,116,115]
def kOf:Bs:=[111,102]
def kId:Bs:=[105,100]
structure Pc where
 nd:Int
 pts:List Qt
 fill:Bs
 rule:Bs
 lv:Int
structure Ft where
 code:Nat
 pl:Int
def Ev (M:Dm)(n:Int):Bs:=match M n with|none=>[]|some e=>e.name
def I4 (M:Dm)(n:Int)(nm:Bs):Bs:=(zQ M n nm).getD []
def uC (M:Dm)(n:Int)(m:Mv):Except Nat Mv:=
 if(je ⟨(I4 M n zx).toArray⟩).2≠0 then .error (je ⟨(I4 M n zx).toArray⟩).2 else if(thenS (je ⟨(I4 M n zx).toArray⟩).1 m).2=0 then .ok (thenS (je ⟨(I4 M n zx).toArray⟩).1 m).1 else .error 2
def fJ (M:Dm)(n:Int)(nm:Bs):R3:=match zQ M n nm with|none=>⟨0,1,0⟩|some s=>rd s
def okB (l:List Qt):Bool:=decide (l.length<=30) && l.all (fun y=>iq y==0)
def pO (x y w h:R3):Except Nat (List Qt):=
 if(add x.n x.d w.n w.d).c=0/\(add y.n y.d h.n h.d).c=0/\okB (NC x.n x.d y.n y.d (add x.n x.d w.n w.d).n (add x.n x.d w.n w.d).d (add y.n y.d h.n h.d).n (add y.n y.d h.n h.d).d)=true
 then .ok (NC x.n x.d y.n y.d (add x.n x.d w.n w.d).n (add x.n x.d w.n w.d).d (add y.n y.d h.n h.d).n (add y.n y.d h.n h.d).d) else .error 2
def XP (M:Dm)(n:Int):Except Nat (List Qt):=
 if(fJ M n [120]).c≠0 then .error (fJ M n [120]).c else if(fJ M n [121]).c≠0 then .error (fJ M n [121]).c else if(fJ M n [119]).c≠0 then .error (fJ M n [119]).c else if(fJ M n [104]).c≠0 then .error (fJ M n [104]).c
 else pO (fJ M n [120]) (fJ M n [121]) (fJ M n [119]) (fJ M n [104])
def ptM (w:Bs):Option Qt:=match behind 44 w with
 |none=>none
 |some b=>if(rd (ahead 44 w)).c=0/\(rd b).c=0 then some ⟨(rd (ahead 44 w)).n,(rd (ahead 44 w)).d,(rd b).n,(rd b).d⟩ else none
def Cm (s:Bs):Except Nat (List Qt):=
 if s=[] then .ok [] else match(words ⟨s.toArray⟩).mapM (fun w=>ptM w.toList) with
 |none=>.error 1
 |some l=>if okB l then .ok l else .error 2
def FZ (M:Dm)(n:Int):Except Nat (List Qt):=Cm (I4 M n wO)
def I5 (m:Mv)(a:Qt):Qt:=⟨(dm 0 m ⟨⟨a.xn,a.xd⟩,⟨a.yn,a.yd⟩⟩).1.x.n,(dm 0 m ⟨⟨a.xn,a.xd⟩,⟨a.yn,a.yd⟩⟩).1.x.d,(dm 0 m ⟨⟨a.xn,a.xd⟩,⟨a.yn,a.yd⟩⟩).1.y.n,(dm 0 m ⟨⟨a.xn,a.xd⟩,⟨a.yn,a.yd⟩⟩).1.y.d⟩
def yf (m:Mv)(a:Qt):Bool:=decide ((dm 0 m ⟨⟨a.xn,a.xd⟩,⟨a.yn,a.yd⟩⟩).2=0) && (jI (I5 m a)==0)
def VC (m:Mv)(l:List Qt):Option (List Qt):=if l.all (yf m) then some (l.map (I5 m)) else none
def G6 (s:Bs):Int:=match Lib.atoiAll s with
 | .ok v=>if 0<=v/\v<=999/\Lib.itoa v=s then v else 0
 |_=>0
def rD (c:Nat):Nat:=if c=2 then 2 else 10
def allM (M:Dm):List Int:=dG M 11 0
def I6 (M:Dm)(n:Int):Option Int:=match zQ M n kOf with
 |none=>none
 |some v=>(allM M).find? (fun k=>zQ M k kId==some v)
def iF (M:Dm)(l:List Rl)(n:Int)(m:Mv)(x:Except Nat (List Qt))(st:Nat×List Pc):Except Ft (Nat×List Pc):=match x with
 | .error c=>.error ⟨rD c,n⟩
 | .ok q=>match VC m q with
  |none=>.error ⟨2,n⟩
  |some q'=>if ofM M l wz n=uB then .ok st else .ok (st.1,st.2++[⟨n,q',ofM M l wz n,ofM M l yX n,G6 (ofM M l uV n)⟩])
def pQ (s:Bs):Bool:=s==Eu||s==uA||s==nH||s==Lr
def Cn (M:Dm)(l:List Rl)(n:Int):Bool:=pQ (Ev M n) && !(ofM M l uj n==kNo)
def dM (M:Dm)(l:List Rl):Nat->Int->List Int->Mv->Nat×List Pc->Except Ft (Nat×List Pc)
 |0,n,path,_,_=>if n∈path then .error ⟨9,n⟩ else .error ⟨7,n⟩
 |f+1,n,path,m,st=>
  if n∈path then .error ⟨9,n⟩ else if 100<=st.1 then .error ⟨7,n⟩ else
  if Cn M l n=false then .ok (st.1+1,st.2) else
  match uC M n m with
  | .error c=>.error ⟨rD c,n⟩
  | .ok m'=>
   if Ev M n=Eu then iF M l n m' (XP M n) (st.1+1,st.2) else
   if Ev M n=uA then iF M l n m' (FZ M n) (st.1+1,st.2) else
   if Ev M n=nH then(QU M n).foldlM (fun s k=>dM M l f k (n::path) m' s) (st.1+1,st.2) else
   match I6 M n with
   |none=>.error ⟨10,n⟩
   |some k=>dM M l f k (n::path) m' (st.1+1,st.2)
where QU (M:Dm) (n:Int):List Int:=match M n with|none=>[]|some e=>e.kids
def uD (l:List Pc):List Pc:=(List.range 1000).flatMap (fun(k:Nat)=>l.filter (fun x=>x.lv==(k:Int)))
def dV (M:Dm)(l:List Rl):Except Ft (List Pc):=match dM M l 101 0 [-1] .one (0,[]) with
 | .error e=>.error e
 | .ok st=>.ok (uD st.2)
end
section
def Ls (l:List Pc):Prop:=∀x∈l,x.pts.length<=30
theorem QV {l:List Qt}(h:okB l=true):l.length<=30:=by
 unfold okB at h;simp only[Bool.and_eq_true,decide_eq_true_eq] at h;exact h.1
theorem a1D {m:Mv}{q q':List Qt}(h:VC m q=some q'):q'.length=q.length:=by
 unfold VC at h;split at h
 ·cases h;rw[List.length_map]
 ·cases h
theorem a1E {M:Dm}{n:Int}{q:List Qt}(h:XP M n=.ok q):q.length<=30:=by
 unfold XP pO at h
 repeat' split at h
 all_goals try cases h
 next hb=>exact QV hb.2.2
theorem XQ {M:Dm}{n:Int}{q:List Qt}(h:FZ M n=.ok q):q.length<=30:=by
 unfold FZ Cm at h
 repeat' split at h
 all_goals try cases h
 ·exact aP _
 ·next hb=>exact QV hb
theorem QW {α:Type}(g:Nat×List Pc->α->Except Ft (Nat×List Pc))(hg:∀s x s',g s x=.ok s'->Ls s.2->Ls s'.2):∀(l:List α) (s s':Nat×List Pc),l.foldlM g s=.ok s'->Ls s.2->Ls s'.2
 |[],s,s',h,h0=>by cases h;exact h0
 |x::l,s,s',h,h0=>by
  rw[List.foldlM_cons] at h;cases hx:g s x with
  |error e=>rw[hx] at h;cases h
  |ok t=>
   rw[hx] at h;exact QW g hg l t s' h (hg s x t hx h0)
theorem I7 (M:Dm)(l:List Rl):∀(f:Nat) (n:Int) (path:List Int) (m:Mv) (st s':Nat×List Pc),dM M l f n path m st=.ok s'->Ls st.2->Ls s'.2
 |0,n,path,m,st,s',h,_=>by
  unfold dM at h;split at h<;>cases h
 |f+1,n,path,m,st,s',h,h0=>by
  unfold dM at h;split at h
  ·cases h
  split at h
  ·cases h
  split at h
  ·cases h;exact h0
  have PC:∀(m':Mv) (x:Except Nat (List Qt)),(∀q,x=.ok q->q.length<=30)->iF M l n m' x (st.1+1,st.2)=.ok s'->Ls s'.2:=fun m' x hx h=>by
   unfold iF at h;split at h
   ·cases h
   ·next q=>
    split at h
    ·cases h
    ·next q' hq=>
     split at h
     ·cases h;exact h0
     ·cases h;intro y hy;rcases List.mem_append.1 hy with hy|hy
      ·exact h0 y hy
      ·simp at hy;subst hy;show q'.length<=30;rw[a1D hq];exact hx q rfl
  split at h
  ·cases h
  ·split at h
   ·exact PC _ _ (fun q hq=>a1E hq) h
   ·split at h
    ·exact PC _ _ (fun q hq=>XQ hq) h
    ·split at h
     ·exact QW _ (fun s x s' h=>I7 M l f x _ _ s s' h) _ (st.1+1,st.2) s' h h0
     ·split at h
      ·cases h
      ·exact I7 M l f _ _ _ (st.1+1,st.2) s' h h0
theorem U8 {M:Dm}{rl:List Rl}{l:List Pc}(hp:dV M rl=.ok l):Ls l:=by
 unfold dV at hp;cases hc:dM M rl 101 0 [-1] .one (0,[]) with
 |error e=>rw[hc] at hp;cases hp
 |ok st=>
  rw[hc] at hp;have hl:=Except.ok.inj hp;rw[<- hl];have h1:=I7 M rl 101 0 [-1] .one (0,[]) st hc (fun x hx=>by cases hx);intro x hx;unfold uD at hx;obtain⟨k, -,h2⟩:=List.mem_flatMap.1 hx;exact h1 x (List.mem_filter.1 h2).1
end
end Go.Proofs.YtecneflbncjhpaaGreatDoor

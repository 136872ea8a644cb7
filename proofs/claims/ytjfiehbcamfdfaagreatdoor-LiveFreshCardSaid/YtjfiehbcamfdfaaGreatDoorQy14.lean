/-
  Parts of the proof.
-/
import Derived.Shelf.Spec.SlicesInsertGrow
import Derived.Test.YtjfiehbcamfdfaaGreatDoorQy13
import Derived.Test.YtjfiehbcamfdfaaGreatDoorQy11
import Derived.Test.YtjfiehbcamfdfaaGreatDoorQy2
namespace Go.Proofs
open Go.Shelf
def Tryz.a2S:Go.Shelf.Ren:=⟨fun|10=>153|6=>208|n=>n,fun|22=>42|23=>3|25=>116|3=>3|4=>4|0=>0|n=>n,fun|n=>n⟩
theorem Tryz.a6S:Go.Proofs.SlLaysH.n10 prog Tryz.a2S:={
  mixed:=by kernel_rfl
  f6:=⟨Tryz.f208.name,by decide,func208.trans (congrArg some (by kernel_rfl))⟩
  f10:=⟨Tryz.f153.name,by decide,func153.trans (congrArg some (by kernel_rfl))⟩
  t0:=underlying0
  a0:=Tryz.isAgg0
  z0:=Tryz.sizeOf0
  v0:=Tryz.zeroValue0
  t3:=underlying3
  a3:=Tryz.isAgg3
  z3:=Tryz.sizeOf3
  v3:=Tryz.zeroValue3
  t4:=underlying4
  a4:=Tryz.isAgg4
  z4:=Tryz.sizeOf4
  v4:=Tryz.zeroValue4
  t22:=underlying42
  a22:=Tryz.isAgg42
  z22:=Tryz.sizeOf42
  v22:=Tryz.zeroValue42
  a23:=Tryz.isAgg3
  z23:=Tryz.sizeOf3
  t25:=underlying116
  a25:=Tryz.isAgg116
  z25:=Tryz.sizeOf116
  v25:=Tryz.zeroValue116}
def Tryz.PS:Go.Shelf.Ren:=⟨fun|21=>105|27=>151|28=>152|35=>207|39=>246|n=>n,fun|22=>42|3=>3|4=>4|0=>0|n=>n,fun|n=>n⟩
theorem Tryz.a0G:Go.Proofs.Lays2.n21 prog Tryz.PS:={
  mixed:=by kernel_rfl
  f21:=func105.trans (congrArg some (by kernel_rfl))
  f27:=func151.trans (congrArg some (by kernel_rfl))
  f28:=func152.trans (congrArg some (by kernel_rfl))
  f35:=func207.trans (congrArg some (by kernel_rfl))
  f39:=func246.trans (congrArg some (by kernel_rfl))
  t0:=underlying0
  a0:=Tryz.isAgg0
  z0:=Tryz.sizeOf0
  v0:=Tryz.zeroValue0
  t3:=underlying3
  a3:=Tryz.isAgg3
  z3:=Tryz.sizeOf3
  v3:=Tryz.zeroValue3
  t4:=underlying4
  a4:=Tryz.isAgg4
  z4:=Tryz.sizeOf4
  v4:=Tryz.zeroValue4
  t22:=underlying42
  a22:=Tryz.isAgg42
  z22:=Tryz.sizeOf42
  v22:=Tryz.zeroValue42
  i3:=by kernel_rfl}
end Go.Proofs
namespace Go.Proofs.YtjfiehbcamfdfaaGreatDoor
open Go.Proofs.Tryz
section
open Go.RowKit
set_option maxHeartbeats 2000000
def Vm (W:World)(done:List (Int×Int))(Wc:World):Prop:=Below W.heap.size W Wc/\∃o k,Wc.heap[W.heap.size]? =some (.cells #[.slice o done.length k] 42)/\Wc.ownsRow (W.heap.size+1) 3 1 (.slice o done.length k) done.length (bY (done.map Prod.fst))
theorem gather (W:World)(done:List (Int×Int))(Wc:World)(i d:Int)(h:Vm W done Wc)(hl:done.length<1000000):
    ak 156 (#[aa i,aa d]++#[aj W.heap.size]) Wc fun e w'=>e=.returned (.tuple #[])/\Vm W (done++[(i,d)]) w':=by
  obtain⟨hb,o,k,hc,ho⟩:=h;obtain⟨i0,hi0,hz0,hz1,hz2⟩:=info_parts yX;have c0:=aA hc 0 _ rfl;have hlt:=aD hc;have b1:=aW Wc (.cells #[aa i] 3);have H0:=dh Wc #[aa i] 3;have HB:Hid (Below W.heap.size W Wc):=hb;clear hb;obtain⟨PL,hPL⟩:∃PL,W.heap.size=PL:=⟨_,rfl⟩;rw[hPL] at hc ho c0 hlt⊢;show ak 156 #[aa i,aa d,aj PL] Wc _;go_enter func156,ntmps156;go_wp2_with(at_builtin;refine wpList_append_own_at _ rfl _ _ 42 rfl (PL+1) 3 i0 (aa 0) 1 8 underlying42 hi0 hz0 hz1 hz2 rfl (by decide) _ _ _ rfl (World.ownsRow.alloc ho _) ⟨Wc.heap.size,0,none⟩ 1 1 [aa i] rfl rfl (World.news_of_block H0) (fun u hu=>by simp at hu;rcases hu with rfl;rfl) (by rw[aQ];omega) (by omega) (by simp;omega) ?_;intro v7 w7 jQ lU _ Ml;obtain⟨o7,k7,rfl⟩:=aI jQ;have e7:=(lU.block PL (Nat.lt_of_lt_of_le hlt b1.size) (own_ne ho (Nat.lt_succ_self PL))).trans ((b1.block PL hlt).trans hc);have c7:=aA e7 0 _ rfl;have f7:=dF e7);refine bodyPost_end (results_none rfl _ _ _) rfl ⟨rfl,?_,o7,k7,?_,?_⟩
  · have h7:Below PL W w7:=by
      have hb:=HB.out;rw[hPL] at hb;refine⟨lU.os.trans (b1.os.trans hb.os),lU.tape.trans (b1.tape.trans hb.tape),lU.output.trans (b1.output.trans hb.output),Nat.le_trans hb.size (Nat.le_trans b1.size lU.size),fun j hj=>?_⟩;exact(lU.block j (by have:=b1.size;omega) (own_ne ho (by omega))).trans ((b1.block j (by omega)).trans (hb.block j hj))
    rw[hPL];exact h7.setCell eU _
  · rw[hPL,heap_setCell_same w7 PL 0 _ _ _ e7]
    simp
  · rw[hPL]
    have:=bS (w':=w7.setCell ⟨PL,0,none⟩ (.slice o7 (done.length+1) k7)) jQ fun g hg=>Below.heap_setCell _ _ _ g (fun e1=>by have:=(jQ.lt g hg).1;simp only at e1;omega);rw[List.map_append,Ef,List.length_append];exact this
def jm (M:Dm)(f:Nat)(n:Int):List Int:=(pre M f n 1).map Prod.fst
theorem Vn {B:Nat}{tg:kE}{W:World}{DB MB:Nat}{p:Int->Option Nat}{M:Dm}{nx c:Nat}(hd:bG B tg W DB MB p M nx c)(f:Nat)(n:Int)(hf:f<=900000)(hp:Dp M f n)(hn:dH n)(hl:(jm M f n).length<=1000000):
    ak 107 #[aj DB,aa n] W fun e w'=>∃o k,e=.returned (.slice o (jm M f n).length k)/\Below W.heap.size W w'/\w'.ownsRow (W.heap.size+1) 3 1 (.slice o (jm M f n).length k) (jm M f n).length (bY (jm M f n)):=by
  have HW:=Ej hd #[aj W.heap.size] (Vm W) (fun done Wc h=>⟨fun b t ht=>h.1.block b (hd.low b t ht).2,h.1.size⟩) (fun done Wc i d h hl=>gather W done Wc i d h hl) f n 1 [] (W.alloc (.cells #[.slice none 0 0] 42)) hp hn (by decide) (by omega) (by rw[List.length_nil];unfold jm at hl;rw[List.length_map] at hl;omega) ⟨aW W _,none,0,dh W _ _,World.ownsRow_nil _ _ _ _⟩;rw[List.nil_append] at HW;have hlm:(jm M f n).length=(pre M f n 1).length:=List.length_map ..;go_enter func107,ntmps107;go_wp2_with(go_at_call 155;refine HW.mono ?_;rintro e w1 ⟨rfl,h1⟩;obtain⟨hb1,o,k,hc1,ho1⟩:=h1;have c1:=aA hc1 0 _ rfl);go_ret;exact⟨o,k,by rw[hlm];rfl,hb1,by rw[hlm];exact ho1⟩
theorem a08 (n x:Int)(PN:Nat)(W:World)(hc:W.cell? (ag PN 0)=some (aa n)):FnGives prog 154 #[aj PN] #[aa x] (.bool (decide (x=n))) W:=by
  show ak 154 #[aa x,aj PN] W _;go_enter func154,ntmps154;go_wp2
  all_goals(go_ret;exact⟨by first|(simp_all;done)|(simp_all;rfl),0,rfl⟩)
theorem a5b {w:World}{blk:Nat}{cur:Array Value}{t:TypeId}(enc:Int->Value)(d:Array Int)(h:w.heap[blk]? =some (.cells cur t)):(Sort.putRow enc w blk 0 d).heap[blk]? =some (.cells (Sort.putCells enc 0 d cur) t):=by
  simp[Sort.putRow,Sort.mapBlock,Array.getElem?_modify,h,Sort.onCells]
theorem a3o {w:World}{blk x:Nat}(enc:Int->Value)(d:Array Int)(h:x≠blk):(Sort.putRow enc w blk 0 d).heap[x]? =w.heap[x]? :=by
  simp[Sort.putRow,Sort.mapBlock,Array.getElem?_modify,Ne.symm h]
theorem a1H (F R:List Int)(cur:Array Value)(h:F.length<=cur.size):(Sort.putCells (Value.int .i64) 0 (F++R).toArray cur).toList.take F.length=bY F:=by
  apply List.ext_getElem?;intro k;rw[List.getElem?_take];unfold bY;rw[List.getElem?_map];split
  · rename_i hk
    have hkc:k<cur.size:=by omega
    rw[Array.getElem?_toList];unfold Sort.putCells;rw[Array.getElem?_mapIdx,Array.getElem?_eq_getElem hkc,Option.map_some,if_pos ⟨Nat.zero_le _,by simp;omega⟩];rw[List.getElem?_eq_getElem hk,Option.map_some,Nat.sub_zero];congr 2;rw[getElem!_pos _ k (by simp;omega)];simp[List.getElem_append_left hk]
  · rename_i hk
    rw[List.getElem?_eq_none (by omega)];rfl
theorem aeK {B:Nat}{W:World}{v:Value}{L:List Int}{n:Int}{PN:Nat}(ho:W.ownsRow B 3 1 v L.length (bY L))(hL:L≠[])(hc:W.cell? (ag PN 0)=some (aa n))(hne:v.ownBlock≠some PN):
    ak 153 #[v,.func (.func 154) #[] #[aj PN]] W fun e w'=>∃o k,e=.returned (.slice o (L.filter (fun x=> !decide (x=n))).length k)/\w'.ownsRow B 3 1 (.slice o (L.filter (fun x=> !decide (x=n))).length k) (L.filter (fun x=> !decide (x=n))).length (bY (L.filter (fun x=> !decide (x=n))))/\(Value.slice o (L.filter (fun x=> !decide (x=n))).length k).ownBlock=v.ownBlock/\W.grownBy w' v.ownBlock:=by
  have hl:=ZG ho;obtain⟨h1,h2⟩:=ho;rcases h2 with⟨-,h2⟩|⟨g,cap,cur,rfl,h3,h4,h5,h6,h7,h8⟩
  · exact absurd (List.length_eq_zero_iff.1 h2) hL
  have hgn:g≠PN:=fun e=>hne (by rw[e];rfl);have hH:Sort.Holds (Value.int .i64) W g 0 L.toArray:=fun j hj=>by
    have hj':j<L.length:=by simpa using hj
    refine⟨?_,dF h4 _⟩;rw[Nat.zero_add];refine aA h4 j _ ?_;have hx:(bY L)[j]? =some (aa L[j]):=wW (List.getElem?_eq_getElem hj');rw[<- h8,Nat.mul_one,List.getElem?_take,if_pos hj',Array.getElem?_toList] at hx;rw[hx,getElem!_pos _ j hj];simp
  have hD:=AnyE.slices_DeleteFunc Tryz.a6S (Value.int .i64) (fun _=>rfl) (fun x=>decide (x=n)) 154 #[aj PN] (fun args w=>by kernel_rfl) 0 (fun w=>Tryz.zeroValue3 w) g 0 cap L.toArray W
    (fun W' x hb=>a08 n x PN W' ((hb.cell (ax hc)).trans hc))
    (fun m os dk x _=>a08 n x PN _ (by
      unfold sortWorld;rw[Sort.cell?_grow _ _ _ (by show PN<(Sort.putRow _ _ _ _ _).heap.size;rw[Sort.size_putRow];exact ax hc),Sort.cell?_putRow_other _ _ g 0 _ _ (Or.inl (fun e=>hgn e.symm))];exact hc)) hH (by simpa using hl) (by simpa using h5)
  have hs:L.toArray.size=L.length:=by simp
  rw[hs] at hD;refine hD.mono fun e w' ⟨he,q,hw⟩=>?_;have hF:(L.filter (fun x=> !decide (x=n))).length<=L.length:=List.length_filter_le _ _;have hcs:cur.size=cap:=by rw[h7,Nat.mul_one]
  refine⟨some ⟨g,0,none⟩,cap,he,?_,rfl,?_⟩
  · rw[hw]
    refine⟨by rw[QN,Nat.mul_one],.inr ⟨g,cap,_,rfl,h3,a5b (w:=Sort.ahead W q) _ _ h4,by omega,h6,?_,?_⟩⟩
    · unfold Sort.putCells
      rw[Array.size_mapIdx];exact h7
    · rw[Nat.mul_one]
      exact a1H _ _ cur (by omega)
  · rw[hw]
    exact⟨rfl,rfl,rfl,by rw[Sort.size_putRow];exact Nat.le_refl _,fun x _ hx=>a3o _ _ (fun e1=>hx (by rw[e1];rfl))⟩
end
section
open Go
def vB:Bs:=[98,111,120]
def lZ:Bs:=[112,111,108,121]
def jf:Bs:=[103,114,111,117,112]
def wY:Bs:=[117,115,101]
def Av:Bs:=[110,111]
def tC:Bs:=[110,111,110,101]
def yg:Bs:=[109,111,118,101]
def vC:Bs:=[112,111,105,110,116,115]
def kOf:Bs:=[111,102]
def ZH:Bs:=[105,100]
structure Pc where
  nd:Int
  pts:List Qt
  fill:Bs
  rule:Bs
  lv:Int
structure Ft where
  code:Nat
  pl:Int
def GI (M:Dm)(n:Int):Bs:=match M n with|none=>[]|some e=>e.name
def FM (M:Dm)(n:Int)(nm:Bs):Bs:=(atM M n nm).getD []
def iG (M:Dm)(n:Int)(m:Mv):Except Nat Mv:=
  if(iD ⟨(FM M n yg).toArray⟩).2≠0 then .error (iD ⟨(FM M n yg).toArray⟩).2 else if(thenS (iD ⟨(FM M n yg).toArray⟩).1 m).2=0 then .ok (thenS (iD ⟨(FM M n yg).toArray⟩).1 m).1 else .error 2
def dS (M:Dm)(n:Int)(nm:Bs):R3:=match atM M n nm with|none=>⟨0,1,0⟩|some s=>rd s
def okB (l:List Qt):Bool:=decide (l.length<=30) && l.all (fun y=>fU y==0)
def mG (x y w h:R3):Except Nat (List Qt):=
  if(add x.n x.d w.n w.d).c=0/\(add y.n y.d h.n h.d).c=0/\okB (a2x x.n x.d y.n y.d (add x.n x.d w.n w.d).n (add x.n x.d w.n w.d).d (add y.n y.d h.n h.d).n (add y.n y.d h.n h.d).d)=true
  then .ok (a2x x.n x.d y.n y.d (add x.n x.d w.n w.d).n (add x.n x.d w.n w.d).d (add y.n y.d h.n h.d).n (add y.n y.d h.n h.d).d) else .error 2
def Mq (M:Dm)(n:Int):Except Nat (List Qt):=
  if(dS M n [120]).c≠0 then .error (dS M n [120]).c else if(dS M n [121]).c≠0 then .error (dS M n [121]).c else if(dS M n [119]).c≠0 then .error (dS M n [119]).c else if(dS M n [104]).c≠0 then .error (dS M n [104]).c
  else mG (dS M n [120]) (dS M n [121]) (dS M n [119]) (dS M n [104])
def ptM (w:Bs):Option Qt:=match behind 44 w with
  |none=>none
  |some b=>if(rd (ahead 44 w)).c=0/\(rd b).c=0 then some ⟨(rd (ahead 44 w)).n,(rd (ahead 44 w)).d,(rd b).n,(rd b).d⟩ else none
def Aw (s:Bs):Except Nat (List Qt):=
  if s=[] then .ok [] else match(words ⟨s.toArray⟩).mapM (fun w=>ptM w.toList) with
  |none=>.error 1
  |some l=>if okB l then .ok l else .error 2
def yh (M:Dm)(n:Int):Except Nat (List Qt):=Aw (FM M n vC)
def CG (m:Mv)(a:Qt):Qt:=⟨(bD 0 m ⟨⟨a.xn,a.xd⟩,⟨a.yn,a.yd⟩⟩).1.x.n,(bD 0 m ⟨⟨a.xn,a.xd⟩,⟨a.yn,a.yd⟩⟩).1.x.d,(bD 0 m ⟨⟨a.xn,a.xd⟩,⟨a.yn,a.yd⟩⟩).1.y.n,(bD 0 m ⟨⟨a.xn,a.xd⟩,⟨a.yn,a.yd⟩⟩).1.y.d⟩
def vD (m:Mv)(a:Qt):Bool:=decide ((bD 0 m ⟨⟨a.xn,a.xd⟩,⟨a.yn,a.yd⟩⟩).2=0) && (gV (CG m a)==0)
def Tv (m:Mv)(l:List Qt):Option (List Qt):=if l.all (vD m) then some (l.map (CG m)) else none
def Em (s:Bs):Int:=match Lib.atoiAll s with
  | .ok v=>if 0<=v/\v<=999/\Lib.itoa v=s then v else 0
  |_=>0
def tF (c:Nat):Nat:=if c=2 then 2 else 10
def allM (M:Dm):List Int:=jm M 11 0
def Jo (M:Dm)(n:Int):Option Int:=match atM M n kOf with
  |none=>none
  |some v=>(allM M).find? (fun k=>atM M k ZH==some v)
def gK (M:Dm)(l:List Rl)(n:Int)(m:Mv)(x:Except Nat (List Qt))(st:Nat×List Pc):Except Ft (Nat×List Pc):=match x with
  | .error c=>.error ⟨tF c,n⟩
  | .ok q=>match Tv m q with
    |none=>.error ⟨2,n⟩
    |some q'=>if ofM M l sJ n=tC then .ok st else .ok (st.1,st.2++[⟨n,q',ofM M l sJ n,ofM M l uQ n,Em (ofM M l oC n)⟩])
def l6 (s:Bs):Bool:=s==vB||s==lZ||s==jf||s==wY
def Ay (M:Dm)(l:List Rl)(n:Int):Bool:=l6 (GI M n) && !(ofM M l eX n==Av)
def dm (M:Dm)(l:List Rl):Nat->Int->List Int->Mv->Nat×List Pc->Except Ft (Nat×List Pc)
  |0,n,path,_,_=>if n∈path then .error ⟨9,n⟩ else .error ⟨7,n⟩
  |f+1,n,path,m,st=>
    if n∈path then .error ⟨9,n⟩ else if 100<=st.1 then .error ⟨7,n⟩ else
    if Ay M l n=false then .ok (st.1+1,st.2) else
    match iG M n m with
    | .error c=>.error ⟨tF c,n⟩
    | .ok m'=>
      if GI M n=vB then gK M l n m' (Mq M n) (st.1+1,st.2) else
      if GI M n=lZ then gK M l n m' (yh M n) (st.1+1,st.2) else
      if GI M n=jf then(Vo M n).foldlM (fun s k=>dm M l f k (n::path) m' s) (st.1+1,st.2) else
      match Jo M n with
      |none=>.error ⟨10,n⟩
      |some k=>dm M l f k (n::path) m' (st.1+1,st.2)
where Vo (M:Dm) (n:Int):List Int:=match M n with|none=>[]|some e=>e.kids
def tH (l:List Pc):List Pc:=(List.range 1000).flatMap (fun(k:Nat)=>l.filter (fun x=>x.lv==(k:Int)))
def di (M:Dm)(l:List Rl):Except Ft (List Pc):=match dm M l 101 0 [-1] .one (0,[]) with
  | .error e=>.error e
  | .ok st=>.ok (tH st.2)
end
section
def Km (l:List Pc):Prop:=∀x∈l,x.pts.length<=30
theorem Pv {l:List Qt}(h:okB l=true):l.length<=30:=by
 unfold okB at h;simp only[Bool.and_eq_true,decide_eq_true_eq] at h;exact h.1
theorem a0C {m:Mv}{q q':List Qt}(h:Tv m q=some q'):q'.length=q.length:=by
 unfold Tv at h;split at h
 ·cases h;rw[List.length_map]
 ·cases h
theorem a0D {M:Dm}{n:Int}{q:List Qt}(h:Mq M n=.ok q):q.length<=30:=by
 unfold Mq mG at h
 repeat' split at h
 all_goals try cases h
 next hb=>exact Pv hb.2.2
theorem Xi {M:Dm}{n:Int}{q:List Qt}(h:yh M n=.ok q):q.length<=30:=by
 unfold yh Aw at h
 repeat' split at h
 all_goals try cases h
 ·exact Nat.zero_le _
 ·next hb=>exact Pv hb
theorem Pw {α:Type}(g:Nat×List Pc->α->Except Ft (Nat×List Pc))(hg:∀s x s',g s x=.ok s'->Km s.2->Km s'.2):∀(l:List α) (s s':Nat×List Pc),l.foldlM g s=.ok s'->Km s.2->Km s'.2
 |[],s,s',h,h0=>by cases h;exact h0
 |x::l,s,s',h,h0=>by
  rw[List.foldlM_cons] at h;cases hx:g s x with
  |error e=>rw[hx] at h;cases h
  |ok t=>
   rw[hx] at h;exact Pw g hg l t s' h (hg s x t hx h0)
theorem Gp (M:Dm)(l:List Rl):∀(f:Nat) (n:Int) (path:List Int) (m:Mv) (st s':Nat×List Pc),dm M l f n path m st=.ok s'->Km st.2->Km s'.2
 |0,n,path,m,st,s',h,_=>by
  unfold dm at h;split at h<;>cases h
 |f+1,n,path,m,st,s',h,h0=>by
  unfold dm at h;split at h
  ·cases h
  split at h
  ·cases h
  split at h
  ·cases h;exact h0
  have PC:∀(m':Mv) (x:Except Nat (List Qt)),(∀q,x=.ok q->q.length<=30)->gK M l n m' x (st.1+1,st.2)=.ok s'->Km s'.2:=fun m' x hx h=>by
   unfold gK at h;split at h
   ·cases h
   ·next q=>
    split at h
    ·cases h
    ·next q' hq=>
     split at h
     ·cases h;exact h0
     ·cases h;intro y hy;rcases List.mem_append.1 hy with hy|hy
      ·exact h0 y hy
      ·simp at hy;subst hy;show q'.length<=30;rw[a0C hq];exact hx q rfl
  split at h
  ·cases h
  ·split at h
   ·exact PC _ _ (fun q hq=>a0D hq) h
   ·split at h
    ·exact PC _ _ (fun q hq=>Xi hq) h
    ·split at h
     ·exact Pw _ (fun s x s' h=>Gp M l f x _ _ s s' h) _ (st.1+1,st.2) s' h h0
     ·split at h
      ·cases h
      ·exact Gp M l f _ _ _ (st.1+1,st.2) s' h h0
theorem Sq {M:Dm}{rl:List Rl}{l:List Pc}(hp:di M rl=.ok l):Km l:=by
 unfold di at hp;cases hc:dm M rl 101 0 [-1] .one (0,[]) with
 |error e=>rw[hc] at hp;cases hp
 |ok st=>
  rw[hc] at hp;have hl:=Except.ok.inj hp;rw[<- hl];have h1:=Gp M rl 101 0 [-1] .one (0,[]) st hc (fun x hx=>by cases hx);intro x hx;unfold tH at hx;obtain⟨k, -,h2⟩:=List.mem_flatMap.1 hx;exact h1 x (List.mem_filter.1 h2).1
end
end Go.Proofs.YtjfiehbcamfdfaaGreatDoor

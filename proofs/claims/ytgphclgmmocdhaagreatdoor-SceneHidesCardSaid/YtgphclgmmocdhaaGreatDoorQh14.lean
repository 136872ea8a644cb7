/-
  Parts of the proof.
-/
import Derived.Shelf.Spec.SlicesInsertGrow
import Derived.Test.YtgphclgmmocdhaaGreatDoorQh13
import Derived.Test.YtgphclgmmocdhaaGreatDoorQh8
import Derived.Test.YtgphclgmmocdhaaGreatDoorQh10
namespace Go.Proofs
open Go.Shelf
def Tryz.laysH10_ren : Go.Shelf.Ren := ⟨fun | 10 => 72 | 6 => 112 | n => n, fun | 22 => 72 | 23 => 3 | 25 => 150 | 3 => 3 | 4 => 4 | 0 => 0 | n => n, fun | n => n⟩
theorem Tryz.laysH10 : Go.Proofs.SlLaysH.n10 Tryz.prog Tryz.laysH10_ren := {
  mixed := by kernel_rfl
  f6 := ⟨Tryz.f112.name, by decide, Tryz.func112.trans (congrArg some (by kernel_rfl))⟩
  f10 := ⟨Tryz.f72.name, by decide, Tryz.func72.trans (congrArg some (by kernel_rfl))⟩
  t0 := Tryz.underlying0
  a0 := Tryz.isAgg0
  z0 := Tryz.sizeOf0
  v0 := Tryz.zeroValue0
  t3 := Tryz.underlying3
  a3 := Tryz.isAgg3
  z3 := Tryz.sizeOf3
  v3 := Tryz.zeroValue3
  t4 := Tryz.underlying4
  a4 := Tryz.isAgg4
  z4 := Tryz.sizeOf4
  v4 := Tryz.zeroValue4
  t22 := Tryz.underlying72
  a22 := Tryz.isAgg72
  z22 := Tryz.sizeOf72
  v22 := Tryz.zeroValue72
  a23 := Tryz.isAgg3
  z23 := Tryz.sizeOf3
  t25 := Tryz.underlying150
  a25 := Tryz.isAgg150
  z25 := Tryz.sizeOf150
  v25 := Tryz.zeroValue150 }
end Go.Proofs
namespace Go.Proofs.YtgphclgmmocdhaaGreatDoor
section
open Go.RowKit
set_option maxHeartbeats 2000000
def FromI (W:World) (done:List (Int × Int)) (Wc:World):Prop:=Below W.heap.size W Wc/\∃ o k,Wc.heap[W.heap.size]? = some (.cells #[.slice o done.length k] 72)/\Wc.ownsRow (W.heap.size+1) 3 1 (.slice o done.length k) done.length (intsV (done.map Prod.fst))
theorem gather (W:World) (done:List (Int × Int)) (Wc:World) (i d:Int) (h:FromI W done Wc) (hl:done.length<1000000) :
    Calls Tryz.prog 75 (#[.int .i64 i,.int .i64 d]++#[.pointer (some ⟨W.heap.size,0,none⟩)]) Wc fun e w'=>e=.returned (.tuple #[])/\FromI W (done++[(i,d)]) w':=by
  obtain ⟨hb,o,k,hc,ho⟩:=h
  obtain ⟨i0,hi0,hz0,hz1,hz2⟩:=info_parts intInfo
  have c0:=bcell hc 0 _ rfl
  have hlt:=heap_lt hc
  have b1:=mal Wc (.cells #[.int .i64 i] 3)
  have H0:=mbox Wc #[.int .i64 i] 3
  have HB:Hid (Below W.heap.size W Wc):=hb
  clear hb
  obtain ⟨PL,hPL⟩:∃ PL,W.heap.size=PL:=⟨_,rfl⟩
  rw [hPL] at hc ho c0 hlt ⊢
  show Calls Tryz.prog 75 #[.int .i64 i,.int .i64 d,.pointer (some ⟨PL,0,none⟩)] Wc _
  go_enter Tryz.func75,Tryz.ntmps75
  go_wp2_with (at_builtin;refine wpList_append_own_at _ rfl _ _ 72 rfl (PL+1) 3 i0 (.int .i64 0) 1 8 Tryz.underlying72 hi0 hz0 hz1 hz2 rfl (by decide) _ _ _ rfl (World.ownsRow.alloc ho _) ⟨Wc.heap.size,0,none⟩ 1 1 [.int .i64 i] rfl rfl (World.news_of_block H0) (fun u hu=>by simp at hu;rcases hu with rfl;rfl) (by rw [maxLen_eq];omega) (by omega) (by simp;omega) ?_;intro v7 w7 ow7 gr7 _ loc7;obtain ⟨o7,k7,rfl⟩:=own_slice ow7;have e7:=(gr7.block PL (Nat.lt_of_lt_of_le hlt b1.size) (own_ne ho (Nat.lt_succ_self PL))).trans ((b1.block PL hlt).trans hc);have c7:=bcell e7 0 _ rfl;have f7:=froz_at e7)
  refine bodyPost_end (results_none rfl _ _ _) rfl ⟨rfl,?_,o7,k7,?_,?_⟩
  · have h7:Below PL W w7:=by
      have hb:=HB.out
      rw [hPL] at hb
      refine ⟨gr7.os.trans (b1.os.trans hb.os),gr7.tape.trans (b1.tape.trans hb.tape),gr7.output.trans (b1.output.trans hb.output),Nat.le_trans hb.size (Nat.le_trans b1.size gr7.size),fun j hj=>?_⟩
      exact (gr7.block j (by have:=b1.size;omega) (own_ne ho (by omega))).trans ((b1.block j (by omega)).trans (hb.block j hj))
    rw [hPL]
    exact h7.setCell Nat.le.refl _
  · rw [hPL,heap_setCell_same w7 PL 0 _ _ _ e7]
    simp
  · rw [hPL]
    have:=own_same (w':=w7.setCell ⟨PL,0,none⟩ (.slice o7 (done.length+1) k7)) ow7 fun g hg=>Below.heap_setCell _ _ _ g (fun e1=>by have:=(ow7.lt g hg).1;simp only at e1;omega)
    rw [List.map_append,intsV_app,List.length_append]
    exact this
def fromL (M:Dm) (f:Nat) (n:Int):List Int:=(pre M f n 1).map Prod.fst
theorem from_doc {B:Nat} {tg:Tags} {W:World} {DB MB:Nat} {p:Int->Option Nat} {M:Dm} {nx c:Nat} (hd:DocW B tg W DB MB p M nx c) (f:Nat) (n:Int) (hf:f<=900000) (hp:Dp M f n) (hn:Wf64 n) (hl:(fromL M f n).length<=1000000) :
    Calls Tryz.prog 41 #[.pointer (some ⟨DB,0,none⟩),.int .i64 n] W fun e w'=>∃ o k,e=.returned (.slice o (fromL M f n).length k)/\Below W.heap.size W w'/\w'.ownsRow (W.heap.size+1) 3 1 (.slice o (fromL M f n).length k) (fromL M f n).length (intsV (fromL M f n)):=by
  have HW:=walk_from hd #[.pointer (some ⟨W.heap.size,0,none⟩)] (FromI W) (fun done Wc h=>⟨fun b t ht=>h.1.block b (hd.low b t ht).2,h.1.size⟩) (fun done Wc i d h hl=>gather W done Wc i d h hl) f n 1 [] (W.alloc (.cells #[.slice none 0 0] 72)) hp hn (by decide) (by omega) (by rw [List.length_nil];unfold fromL at hl;rw [List.length_map] at hl;omega) ⟨mal W _,none,0,mbox W _ _,World.ownsRow_nil _ _ _ _⟩
  rw [List.nil_append] at HW
  have hlm:(fromL M f n).length=(pre M f n 1).length:=List.length_map ..
  go_enter Tryz.func41,Tryz.ntmps41
  go_wp2_with (go_at_call 74;refine HW.mono ?_;rintro e w1 ⟨rfl,h1⟩;obtain ⟨hb1,o,k,hc1,ho1⟩:=h1;have c1:=bcell hc1 0 _ rfl)
  go_ret
  exact ⟨o,k,by rw [hlm];rfl,hb1,by rw [hlm];exact ho1⟩
theorem takeOut_gives (n x:Int) (PN:Nat) (W:World) (hc:W.cell? ⟨PN,0,none⟩=some (.int .i64 n)):FnGives Tryz.prog 73 #[.pointer (some ⟨PN,0,none⟩)] #[.int .i64 x] (.bool (decide (x=n))) W:=by
  show Calls Tryz.prog 73 #[.int .i64 x,.pointer (some ⟨PN,0,none⟩)] W _
  go_enter Tryz.func73,Tryz.ntmps73
  go_wp2
  all_goals (go_ret;exact ⟨by first | (simp_all;done) | (simp_all;rfl),0,rfl⟩)
theorem putRow_at {w:World} {blk:Nat} {cur:Array Value} {t:TypeId} (enc:Int->Value) (d:Array Int) (h:w.heap[blk]? = some (.cells cur t)):(Sort.putRow enc w blk 0 d).heap[blk]? = some (.cells (Sort.putCells enc 0 d cur) t):=by
  simp [Sort.putRow,Sort.mapBlock,Array.getElem?_modify,h,Sort.onCells]
theorem putRow_far {w:World} {blk x:Nat} (enc:Int->Value) (d:Array Int) (h:x≠blk):(Sort.putRow enc w blk 0 d).heap[x]? = w.heap[x]? := by
  simp [Sort.putRow,Sort.mapBlock,Array.getElem?_modify,Ne.symm h]
theorem putCells_take (F R:List Int) (cur:Array Value) (h:F.length<=cur.size):(Sort.putCells (Value.int .i64) 0 (F++R).toArray cur).toList.take F.length=intsV F:=by
  apply List.ext_getElem?
  intro k
  rw [List.getElem?_take]
  unfold intsV
  rw [List.getElem?_map]
  split
  · rename_i hk
    have hkc:k<cur.size:=by omega
    rw [Array.getElem?_toList]
    unfold Sort.putCells
    rw [Array.getElem?_mapIdx,Array.getElem?_eq_getElem hkc,Option.map_some,if_pos ⟨Nat.zero_le _,by simp;omega⟩]
    rw [List.getElem?_eq_getElem hk,Option.map_some,Nat.sub_zero]
    congr 2
    rw [getElem!_pos _ k (by simp;omega)]
    simp [List.getElem_append_left hk]
  · rename_i hk
    rw [List.getElem?_eq_none (by omega)]
    rfl
theorem DelF {B:Nat} {W:World} {v:Value} {L:List Int} {n:Int} {PN:Nat} (ho:W.ownsRow B 3 1 v L.length (intsV L)) (hL:L≠[]) (hc:W.cell? ⟨PN,0,none⟩=some (.int .i64 n)) (hne:v.ownBlock≠some PN) :
    Calls Tryz.prog 72 #[v,.func (.func 73) #[] #[.pointer (some ⟨PN,0,none⟩)]] W fun e w'=>∃ o k,e=.returned (.slice o (L.filter (fun x => !decide (x=n))).length k)/\w'.ownsRow B 3 1 (.slice o (L.filter (fun x => !decide (x=n))).length k) (L.filter (fun x => !decide (x=n))).length (intsV (L.filter (fun x => !decide (x=n))))/\(Value.slice o (L.filter (fun x => !decide (x=n))).length k).ownBlock=v.ownBlock/\W.grownBy w' v.ownBlock:=by
  have hl:=own_len ho
  obtain ⟨h1,h2⟩:=ho
  rcases h2 with ⟨-,h2⟩ | ⟨g,cap,cur,rfl,h3,h4,h5,h6,h7,h8⟩
  · exact absurd (List.length_eq_zero_iff.1 h2) hL
  have hgn:g≠PN:=fun e=>hne (by rw [e];rfl)
  have hH:Sort.Holds (Value.int .i64) W g 0 L.toArray:=fun j hj=>by
    have hj':j<L.length:=by simpa using hj
    refine ⟨?_,froz_at h4 _⟩
    rw [Nat.zero_add]
    refine bcell h4 j _ ?_
    have hx:(intsV L)[j]? = some (.int .i64 L[j]):=intsV_get (List.getElem?_eq_getElem hj')
    rw [<- h8,Nat.mul_one,List.getElem?_take,if_pos hj',Array.getElem?_toList] at hx
    rw [hx,getElem!_pos _ j hj]
    simp
  have hD:=AnyE.slices_DeleteFunc Tryz.laysH10 (Value.int .i64) (fun _=>rfl) (fun x=>decide (x=n)) 73 #[.pointer (some ⟨PN,0,none⟩)] (fun args w=>by kernel_rfl) 0 (fun w=>Tryz.zeroValue3 w) g 0 cap L.toArray W
    (fun W' x hb=>takeOut_gives n x PN W' ((hb.cell (cell_lt3 hc)).trans hc))
    (fun m os dk x _=>takeOut_gives n x PN _ (by
      unfold sortWorld
      rw [Sort.cell?_grow _ _ _ (by show PN<(Sort.putRow _ _ _ _ _).heap.size;rw [Sort.size_putRow];exact cell_lt3 hc),Sort.cell?_putRow_other _ _ g 0 _ _ (Or.inl (fun e=>hgn e.symm))]
      exact hc)) hH (by simpa using hl) (by simpa using h5)
  have hs:L.toArray.size=L.length:=by simp
  rw [hs] at hD
  refine hD.mono fun e w' ⟨he,q,hw⟩=>?_
  have hF:(L.filter (fun x => !decide (x=n))).length<=L.length:=List.length_filter_le _ _
  have hcs:cur.size=cap:=by rw [h7,Nat.mul_one]
  refine ⟨some ⟨g,0,none⟩,cap,he,?_,rfl,?_⟩
  · rw [hw]
    refine ⟨by rw [intsV_len,Nat.mul_one],.inr ⟨g,cap,_,rfl,h3,putRow_at (w:=Sort.ahead W q) _ _ h4,by omega,h6,?_,?_⟩⟩
    · unfold Sort.putCells
      rw [Array.size_mapIdx]
      exact h7
    · rw [Nat.mul_one]
      exact putCells_take _ _ cur (by omega)
  · rw [hw]
    exact ⟨rfl,rfl,rfl,by rw [Sort.size_putRow];exact Nat.le_refl _,fun x _ hx=>putRow_far _ _ (fun e1=>hx (by rw [e1];rfl))⟩
end
section
open Go
def kBox:Bs:=[98,111,120]
def kPoly:Bs:=[112,111,108,121]
def kGroup:Bs:=[103,114,111,117,112]
def kUse:Bs:=[117,115,101]
def kNo:Bs:=[110,111]
def kNone:Bs:=[110,111,110,101]
def kMove:Bs:=[109,111,118,101]
def kPoints:Bs:=[112,111,105,110,116,115]
def kOf:Bs:=[111,102]
def kId:Bs:=[105,100]
structure Pc where
  nd:Int
  pts:List Qt
  fill:Bs
  rule:Bs
  lv:Int
structure Ft where
  code:Nat
  pl:Int
def nmD (M:Dm) (n:Int):Bs:=match M n with | none=>[] | some e=>e.name
def valM (M:Dm) (n:Int) (nm:Bs):Bs:=(atM M n nm).getD []
def moveM (M:Dm) (n:Int) (m:Mv):Except Nat Mv:=
  if (readR ⟨(valM M n kMove).toArray⟩).2≠0 then .error (readR ⟨(valM M n kMove).toArray⟩).2 else if (thenS (readR ⟨(valM M n kMove).toArray⟩).1 m).2=0 then .ok (thenS (readR ⟨(valM M n kMove).toArray⟩).1 m).1 else .error 2
def fracM (M:Dm) (n:Int) (nm:Bs):R3:=match atM M n nm with | none=>⟨0,1,0⟩ | some s=>rd s
def okB (l:List Qt):Bool:=decide (l.length<=30) && l.all (fun y=>errP y==0)
def boxOfM (x y w h:R3):Except Nat (List Qt):=
  if (add x.n x.d w.n w.d).c=0/\(add y.n y.d h.n h.d).c=0/\okB (boxL x.n x.d y.n y.d (add x.n x.d w.n w.d).n (add x.n x.d w.n w.d).d (add y.n y.d h.n h.d).n (add y.n y.d h.n h.d).d)=true
  then .ok (boxL x.n x.d y.n y.d (add x.n x.d w.n w.d).n (add x.n x.d w.n w.d).d (add y.n y.d h.n h.d).n (add y.n y.d h.n h.d).d) else .error 2
def boxM (M:Dm) (n:Int):Except Nat (List Qt):=
  if (fracM M n [120]).c≠0 then .error (fracM M n [120]).c else if (fracM M n [121]).c≠0 then .error (fracM M n [121]).c else if (fracM M n [119]).c≠0 then .error (fracM M n [119]).c else if (fracM M n [104]).c≠0 then .error (fracM M n [104]).c
  else boxOfM (fracM M n [120]) (fracM M n [121]) (fracM M n [119]) (fracM M n [104])
def ptM (w:Bs):Option Qt:=match behind 44 w with
  | none=>none
  | some b=>if (rd (ahead 44 w)).c=0/\(rd b).c=0 then some ⟨(rd (ahead 44 w)).n,(rd (ahead 44 w)).d,(rd b).n,(rd b).d⟩ else none
def shapeM (s:Bs):Except Nat (List Qt):=
  if s=[] then .ok [] else match (words ⟨s.toArray⟩).mapM (fun w=>ptM w.toList) with
  | none=>.error 1
  | some l=>if okB l then .ok l else .error 2
def polyM (M:Dm) (n:Int):Except Nat (List Qt):=shapeM (valM M n kPoints)
def goP (m:Mv) (a:Qt):Qt:=⟨(movedF 0 m ⟨⟨a.xn,a.xd⟩,⟨a.yn,a.yd⟩⟩).1.x.n,(movedF 0 m ⟨⟨a.xn,a.xd⟩,⟨a.yn,a.yd⟩⟩).1.x.d,(movedF 0 m ⟨⟨a.xn,a.xd⟩,⟨a.yn,a.yd⟩⟩).1.y.n,(movedF 0 m ⟨⟨a.xn,a.xd⟩,⟨a.yn,a.yd⟩⟩).1.y.d⟩
def goOk (m:Mv) (a:Qt):Bool:=decide ((movedF 0 m ⟨⟨a.xn,a.xd⟩,⟨a.yn,a.yd⟩⟩).2=0) && (bigP (goP m a)==0)
def goM (m:Mv) (l:List Qt):Option (List Qt):=if l.all (goOk m) then some (l.map (goP m)) else none
def lvM (s:Bs):Int:=match Lib.atoiAll s with
  | .ok v=>if 0<=v/\v<=999/\Lib.itoa v=s then v else 0
  | _=>0
def kindC (c:Nat):Nat:=if c=2 then 2 else 10
def allM (M:Dm):List Int:=fromL M 11 0
def ledM (M:Dm) (n:Int):Option Int:=match atM M n kOf with
  | none=>none
  | some v=>(allM M).find? (fun k=>atM M k kId==some v)
def pieceM (M:Dm) (l:List Rl) (n:Int) (m:Mv) (x:Except Nat (List Qt)) (st:Nat × List Pc):Except Ft (Nat × List Pc):=match x with
  | .error c=>.error ⟨kindC c,n⟩
  | .ok q=>match goM m q with
    | none=>.error ⟨2,n⟩
    | some q'=>if ofM M l kFill n=kNone then .ok st else .ok (st.1,st.2++[⟨n,q',ofM M l kFill n,ofM M l kRule n,lvM (ofM M l kLevel n)⟩])
def isFour (s:Bs):Bool:=s==kBox || s==kPoly || s==kGroup || s==kUse
def shownE (M:Dm) (l:List Rl) (n:Int):Bool:=isFour (nmD M n) && !(ofM M l kShow n==kNo)
def comeM (M:Dm) (l:List Rl):Nat->Int->List Int->Mv->Nat × List Pc->Except Ft (Nat × List Pc)
  | 0,n,path,_,_=>if n ∈ path then .error ⟨9,n⟩ else .error ⟨7,n⟩
  | f+1,n,path,m,st=>
    if n ∈ path then .error ⟨9,n⟩ else if 100<=st.1 then .error ⟨7,n⟩ else
    if shownE M l n=false then .ok (st.1+1,st.2) else
    match moveM M n m with
    | .error c=>.error ⟨kindC c,n⟩
    | .ok m'=>
      if nmD M n=kBox then pieceM M l n m' (boxM M n) (st.1+1,st.2) else
      if nmD M n=kPoly then pieceM M l n m' (polyM M n) (st.1+1,st.2) else
      if nmD M n=kGroup then (kidsM M n).foldlM (fun s k=>comeM M l f k (n :: path) m' s) (st.1+1,st.2) else
      match ledM M n with
      | none=>.error ⟨10,n⟩
      | some k=>comeM M l f k (n :: path) m' (st.1+1,st.2)
where kidsM (M:Dm) (n:Int):List Int:=match M n with | none=>[] | some e=>e.kids
def sortM (l:List Pc):List Pc:=(List.range 1000).flatMap (fun (k:Nat)=>l.filter (fun x=>x.lv==(k:Int)))
def piecesM (M:Dm) (l:List Rl):Except Ft (List Pc):=match comeM M l 101 0 [-1] .one (0,[]) with
  | .error e=>.error e
  | .ok st=>.ok (sortM st.2)
end
section
open Go
theorem box_few {M:Dm} {n:Int} {q:List Qt} (h:boxM M n=.ok q):q.length<=30:=by
  unfold boxM boxOfM at h
  split at h
  · cases h
  split at h
  · cases h
  split at h
  · cases h
  split at h
  · cases h
  split at h
  · next hk=>
    cases h
    have:=hk.2.2
    unfold okB at this
    simp only [Bool.and_eq_true,decide_eq_true_eq] at this
    exact this.1
  · cases h
theorem poly_few {M:Dm} {n:Int} {q:List Qt} (h:polyM M n=.ok q):q.length<=30:=by
  unfold polyM shapeM at h
  split at h
  · cases h;simp
  · split at h
    · cases h
    · split at h
      · next hk=>
        cases h
        unfold okB at hk
        simp only [Bool.and_eq_true,decide_eq_true_eq] at hk
        exact hk.1
      · cases h
def PtFew (l:List Pc):Prop:=∀ x ∈ l,x.pts.length<=30
theorem fold_pt {α:Type} (g:Nat × List Pc->α->Except Ft (Nat × List Pc)) (hg:∀ s x s',g s x=.ok s'->PtFew s.2->PtFew s'.2):∀ (l:List α) (s s':Nat × List Pc),l.foldlM g s=.ok s'->PtFew s.2->PtFew s'.2
  | [],s,s',h,h0=>by cases h;exact h0
  | x :: l,s,s',h,h0=>by
    rw [List.foldlM_cons] at h
    cases hx:g s x with
    | error e=>rw [hx] at h;cases h
    | ok t=>
      rw [hx] at h
      exact fold_pt g hg l t s' h (hg s x t hx h0)
theorem come_pt (M:Dm) (l:List Rl):∀ (f:Nat) (n:Int) (path:List Int) (m:Mv) (st s':Nat × List Pc),comeM M l f n path m st=.ok s'->PtFew st.2->PtFew s'.2
  | 0,n,path,m,st,s',h,_=>by
    unfold comeM at h
    split at h <;> cases h
  | f+1,n,path,m,st,s',h,h0=>by
    unfold comeM at h
    split at h
    · cases h
    split at h
    · cases h
    split at h
    · cases h;exact h0
    have PC:∀ (m':Mv) (x:Except Nat (List Qt)),(∀ q,x=.ok q->q.length<=30)->pieceM M l n m' x (st.1+1,st.2)=.ok s'->PtFew s'.2:=fun m' x hx h=>by
      unfold pieceM at h
      split at h
      · cases h
      · next q=>
        split at h
        · cases h
        · next q' hq'=>
          split at h
          · cases h;exact h0
          · cases h
            intro y hy
            rcases List.mem_append.1 hy with hy | hy
            · exact h0 y hy
            · simp only [List.mem_singleton] at hy
              subst hy
              unfold goM at hq'
              split at hq'
              · cases hq'
                show (q.map _).length<=30
                rw [List.length_map]
                exact hx q rfl
              · cases hq'
    split at h
    · cases h
    · split at h
      · exact PC _ _ (fun q hq=>box_few hq) h
      · split at h
        · exact PC _ _ (fun q hq=>poly_few hq) h
        · split at h
          · exact fold_pt _ (fun s x s' h=>come_pt M l f x _ _ s s' h) _ (st.1+1,st.2) s' h h0
          · split at h
            · cases h
            · exact come_pt M l f _ _ _ (st.1+1,st.2) s' h h0
theorem pieces_pt {M:Dm} {l:List Rl} {L:List Pc} (h:piecesM M l=.ok L):PtFew L:=by
  unfold piecesM at h
  split at h
  · cases h
  · next st hst=>
    have h1:sortM st.2=L:=by injection h
    intro x hx
    rw [<- h1] at hx
    unfold sortM at hx
    obtain ⟨k, -,hk⟩:=List.mem_flatMap.1 hx
    exact come_pt M l 101 0 [-1] .one (0,[]) st hst (fun y hy=>by cases hy) x (List.mem_filter.1 hk).1
end
end Go.Proofs.YtgphclgmmocdhaaGreatDoor

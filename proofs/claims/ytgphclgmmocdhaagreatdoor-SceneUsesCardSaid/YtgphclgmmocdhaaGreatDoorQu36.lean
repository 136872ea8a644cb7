/-
  Parts of the proof.
-/
import Derived.Test.YtgphclgmmocdhaaGreatDoorQu35
namespace Go.Proofs.YtgphclgmmocdhaaGreatDoor
section
open Go.Sort
def sortG {α:Type} (key:α->Int) (l:List α):List α:=(List.range 1000).flatMap (fun (k:Nat)=>l.filter (fun x=>key x==(k:Int)))
theorem sortG_map {α β:Type} (key:β->Int) (g:α->β) (l:List α):(sortG (fun x=>key (g x)) l).map g=sortG key (l.map g):=by
 unfold sortG
 rw [List.map_flatMap]
 congr 1
 funext k
 rw [List.filter_map]
 rfl
theorem rise_one {α:Type} {R:α->α->Prop} (ht:∀ x y z,R x y->R y z->R x z) (hi:∀ x,¬ R x x):∀ {l m:List α},l.Pairwise R->m.Pairwise R->(∀ x,x ∈ l↔x ∈ m)->l=m
 | [],[],_,_,_=>rfl
 | [],y :: m,_,_,h=>absurd ((h y).2 (by simp)) (by simp)
 | x :: l,[],_,_,h=>absurd ((h x).1 (by simp)) (by simp)
 | x :: l,y :: m,h1,h2,h=>by
  rw [List.pairwise_cons] at h1 h2
  have hxy:x=y:=by
   rcases List.mem_cons.1 ((h x).1 (by simp)) with e | e
   ·exact e
   ·rcases List.mem_cons.1 ((h y).2 (by simp)) with e' | e'
    ·exact e'.symm
    ·exact absurd (ht _ _ _ (h1.1 y e') (h2.1 x e)) (hi x)
  subst hxy
  congr 1
  refine rise_one ht hi h1.2 h2.2 fun z=>⟨fun hz=>?_,fun hz=>?_⟩
  ·rcases List.mem_cons.1 ((h z).1 (by simp [hz])) with e | e
   ·subst e;exact absurd (h1.1 z hz) (hi z)
   ·exact e
  ·rcases List.mem_cons.1 ((h z).2 (by simp [hz])) with e | e
   ·subst e;exact absurd (h2.1 z hz) (hi z)
   ·exact e
section
variable {α:Type} [Inhabited α] {key:α->Int} {tag:α->Nat}
theorem arr_mem {d:Array α} {x:α}:x ∈ d.toList↔InR d 0 d.size x:=by
 constructor
 ·intro h
  obtain ⟨i,hi,e⟩:=List.getElem_of_mem h
  have hi':i<d.size:=by simpa using hi
  exact ⟨i,Nat.zero_le _,hi',by rw [getElem!_pos d i hi'];simpa using e⟩
 ·rintro ⟨i, -,hi,rfl⟩
  rw [getElem!_pos d i hi]
  simp
theorem arr_pw {R:α->α->Prop} {d:Array α} (h:∀ i j,i<j->j<d.size->R d[i]! d[j]!):d.toList.Pairwise R:=by
 rw [List.pairwise_iff_getElem]
 intro i j hi hj hij
 have hi':i<d.size:=by simpa using hi
 have hj':j<d.size:=by simpa using hj
 have:=h i j hij hj'
 rw [getElem!_pos d i hi',getElem!_pos d j hj'] at this
 simpa using this
omit [Inhabited α] in
theorem sortG_pw {l:List α} (h:l.Pairwise (fun x y=>tag x<tag y)):(sortG key l).Pairwise (ltK key tag):=by
 unfold sortG
 rw [List.pairwise_flatMap]
 refine ⟨fun k _=>?_,?_⟩
 ·have h1:=List.Pairwise.filter (fun x=>key x==(k:Int)) h
  refine List.Pairwise.imp_of_mem (fun {a b} ha hb hr=>?_) h1
  have e1:=(List.mem_filter.1 ha).2
  have e2:=(List.mem_filter.1 hb).2
  simp only [beq_iff_eq] at e1 e2
  exact .inr ⟨e1.trans e2.symm,hr⟩
 ·refine List.Pairwise.imp (fun {a b} hab x hx y hy=>?_) List.pairwise_lt_range
  have e1:=(List.mem_filter.1 hx).2
  have e2:=(List.mem_filter.1 hy).2
  simp only [beq_iff_eq] at e1 e2
  exact .inl (by omega)
omit [Inhabited α] in
theorem sortG_mem {l:List α} (h:∀ x ∈ l,0<=key x/\key x<1000) (x:α):x ∈ sortG key l↔x ∈ l:=by
 unfold sortG
 simp only [List.mem_flatMap,List.mem_range,List.mem_filter,beq_iff_eq]
 constructor
 ·rintro ⟨k, -,h1, -⟩;exact h1
 ·intro hx
  obtain ⟨h1,h2⟩:=h x hx
  exact ⟨(key x).toNat,by omega,hx,by omega⟩
theorem stable_is {d e:Array α} (hm:Mvd d e 0 d.size) (hs:Srt key tag e 0 d.size) (ht:∀ i,i<d.size->tag d[i]! = i) (hk:∀ x ∈ d.toList,0<=key x/\key x<1000):e.toList=sortG key d.toList:=by
 refine rise_one (R:=ltK key tag) (fun _ _ _ h h'=>h.trans h') (fun x h=>by unfold ltK at h;omega) (arr_pw fun i j h1 h2=>hs i j (Nat.zero_le _) h1 (by rw [<- hm.sz];exact h2)) (sortG_pw (arr_pw fun i j h1 h2=>?_)) fun x=>?_
 ·rw [ht i (by omega),ht j h2];exact h1
 ·rw [sortG_mem hk,arr_mem,arr_mem,hm.sz]
  exact hm.same x
end
end
section
open Go.RowKit Go.Shelf Go.Sort
theorem lvM_in (s:Bs):0<=lvM s/\lvM s<1000:=by
 unfold lvM
 split
 ·split
  ·next h=>omega
  ·omega
 ·omega
def LvIn (l:List Pc):Prop:=∀ x ∈ l,0<=x.lv/\x.lv<1000
theorem fold_lv {α:Type} (g:Nat × List Pc->α->Except Ft (Nat × List Pc)) (hg:∀ s x s',g s x=.ok s'->LvIn s.2->LvIn s'.2):∀ (l:List α) (s s':Nat × List Pc),l.foldlM g s=.ok s'->LvIn s.2->LvIn s'.2
 | [],s,s',h,h0=>by cases h;exact h0
 | x :: l,s,s',h,h0=>by
  rw [List.foldlM_cons] at h
  cases hx:g s x with
  | error e=>rw [hx] at h;cases h
  | ok t=>
   rw [hx] at h
   exact fold_lv g hg l t s' h (hg s x t hx h0)
theorem come_lv (M:Dm) (l:List Rl):∀ (f:Nat) (n:Int) (path:List Int) (m:Mv) (st s':Nat × List Pc),comeM M l f n path m st=.ok s'->LvIn st.2->LvIn s'.2
 | 0,n,path,m,st,s',h,_=>by
  unfold comeM at h
  split at h <;> cases h
 | f+1,n,path,m,st,s',h,h0=>by
  unfold comeM at h
  split at h
  ·cases h
  split at h
  ·cases h
  split at h
  ·cases h;exact h0
  have PC:∀ (m':Mv) (x:Except Nat (List Qt)),pieceM M l n m' x (st.1+1,st.2)=.ok s'->LvIn s'.2:=fun m' x h=>by
   unfold pieceM at h
   split at h
   ·cases h
   ·split at h
    ·cases h
    ·split at h
     ·cases h;exact h0
     ·cases h
      intro y hy
      rcases List.mem_append.1 hy with hy | hy
      ·exact h0 y hy
      ·simp at hy;subst hy;exact lvM_in _
  split at h
  ·cases h
  ·split at h
   ·exact PC _ _ h
   ·split at h
    ·exact PC _ _ h
    ·split at h
     ·exact fold_lv _ (fun s x s' h=>come_lv M l f x _ _ s s' h) _ (st.1+1,st.2) s' h h0
     ·split at h
      ·cases h
      ·exact come_lv M l f _ _ _ (st.1+1,st.2) s' h h0
theorem sortG_congr {α:Type} {k1 k2:α->Int} {l:List α} (h:∀ x ∈ l,k1 x=k2 x):sortG k1 l=sortG k2 l:=by
 unfold sortG
 congr 1
 funext k
 exact List.filter_congr fun x hx=>by rw [h x hx]
instance:Inhabited P5S:=⟨⟨0,none,0,[],[],[],0⟩⟩
def s5Of (i:Nat) (x:P5S):S5:=⟨x.nd,x.o,x.pts.length,x.cap,⟨x.fill.toArray⟩,⟨x.rule.toArray⟩,x.lv,i⟩
def d5 (ps:List P5S):Array S5:=(ps.mapIdx s5Of).toArray
theorem d5_size (ps:List P5S):(d5 ps).size=ps.length:=by simp [d5]
theorem d5_get (ps:List P5S) (i:Nat) (hi:i<ps.length):(d5 ps)[i]! = s5Of i ps[i]:=by
 rw [getElem!_pos _ i (by rw [d5_size];exact hi)]
 simp [d5]
theorem cellsS_get:∀ (ps:List P5S) (i c:Nat) (hi:i<ps.length),c<5->(cellsS ps)[i * 5+c]? = ([.int .i64 ps[i].nd,ptsV ps[i],bV ps[i].fill,bV ps[i].rule,.int .i64 ps[i].lv]:List Value)[c]?
 | [],i,c,hi,_=>absurd hi (by simp)
 | x :: ps,0,c,_,hc=>by
  rw [Nat.zero_mul,Nat.zero_add]
  unfold cellsS
  match c,hc with
  | 0,_=>rfl
  | 1,_=>rfl
  | 2,_=>rfl
  | 3,_=>rfl
  | 4,_=>rfl
 | x :: ps,i+1,c,hi,hc=>by
  have:=cellsS_get ps i c (by simpa using hi) hc
  rw [show (i+1) * 5+c=i * 5+c+1+1+1+1+1 from by omega]
  unfold cellsS
  simpa using this
theorem flat_cells (d:Array S5) (ps:List P5S) (hs:d.size=ps.length) (h:∀ i (hi:i<ps.length),s5L d[i]! = [.int .i64 ps[i].nd,ptsV ps[i],bV ps[i].fill,bV ps[i].rule,.int .i64 ps[i].lv]):(flatK s5L 5 d).toList=cellsS ps:=by
 apply List.ext_getElem?
 intro t
 by_cases ht:t<ps.length * 5
 ·have h1:t<(flatK s5L 5 d).size:=by rw [size_flatK,hs];exact ht
  have hi:t / 5<ps.length:=by omega
  have hc:t % 5<5:=Nat.mod_lt _ (by omega)
  have h2:=get_flatK s5L 5 d t (by rw [hs];exact ht)
  rw [getElem!_pos _ t h1,h (t / 5) hi] at h2
  have h3:=cellsS_get ps (t / 5) (t % 5) hi hc
  rw [show t / 5 * 5+t % 5=t from by omega] at h3
  rw [h3,Array.getElem?_toList,Array.getElem?_eq_getElem h1,h2]
  rw [getElem!_pos _ (t % 5) (by simpa using hc)]
  exact (List.getElem?_eq_getElem _).symm
 ·rw [List.getElem?_eq_none (by simp [hs];omega),List.getElem?_eq_none (by rw [cellsS_len];omega)]
theorem put_take (F cur:Array Value) (h:F.size<=cur.size):(putCells id 0 F cur).toList.take F.size=F.toList:=by
 apply List.ext_getElem?
 intro k
 rw [List.getElem?_take]
 split
 ·next hk=>
  have hkc:k<cur.size:=by omega
  unfold putCells
  rw [Array.getElem?_toList,Array.getElem?_mapIdx,Array.getElem?_eq_getElem hkc,Array.getElem?_toList,Array.getElem?_eq_getElem hk]
  simp only [Option.map_some,Nat.zero_le,true_and,Nat.zero_add,Nat.sub_zero,id_eq,if_pos hk]
  rw [getElem!_pos _ k hk]
 ·next hk=>rw [List.getElem?_eq_none (by simp;omega)]
theorem SortPcs_some {base:Nat} {W:World} {g cap:Nat} {cur:Array Value} (ps:List P5S) (hl:ps.length<=1000) (hlv:∀ x ∈ ps,0<=x.lv/\x.lv<1000) (hb:base<=g) (hc:W.heap[g]? = some (.cells cur 45)) (h6:ps.length<=cap) (h7:cap<=maxLen) (h8:cur.size=cap * 5) (h9:cur.toList.take (ps.length * 5)=cellsS ps) :
  Calls Tryz.prog 46 #[.slice (some ⟨g,0,none⟩) ps.length cap,cmpV] W fun e w'=>e=.returned (.tuple #[])/\∃ qs:List P5S,qs.map P5S.pc=sortM (ps.map P5S.pc)/\qs.length=ps.length/\(∀ x ∈ qs,x ∈ ps)/\w'.ownsRow base 45 5 (.slice (some ⟨g,0,none⟩) ps.length cap) qs.length (cellsS qs)/\W.grownBy w' (some g):=by
 have hfl:(flatK s5L 5 (d5 ps)).toList=cellsS ps:=flat_cells _ ps (d5_size ps) (fun i hi=>by rw [d5_get ps i hi];rfl)
 have hH:HoldsK s5L 5 W g 0 (d5 ps):=fun j hj=>by
  refine ⟨?_,froz_at hc _⟩
  rw [Nat.zero_add]
  refine bcell hc j _ ?_
  have hj':j<ps.length * 5:=by rw [size_flatK,d5_size] at hj;exact hj
  have h1:(cur.toList.take (ps.length * 5))[j]? = (flatK s5L 5 (d5 ps)).toList[j]? := by rw [h9,hfl]
  rw [List.getElem?_take,if_pos hj',Array.getElem?_toList,Array.getElem?_toList,Array.getElem?_eq_getElem hj] at h1
  rw [h1,getElem!_pos _ j hj]
  rfl
 have hsz:=d5_size ps
 have SS:=SortStable_any (blk_lt hc) hH (by rw [hsz];exact hl) (fun i hi=>by rw [d5_get ps i (by rw [<- hsz];exact hi)];rfl) cap
 rw [hsz] at SS
 refine SS.mono fun e w' hr=>?_
 obtain ⟨he,d',hp,m,os,hw⟩:=hr
 refine ⟨he,?_⟩
 have hz':d'.size=ps.length:=hp.mv.sz.trans hsz
 have hmem:∀ x,InR d' 0 ps.length x->∃ (j:Nat) (hj:j<ps.length),x=s5Of j ps[j]:=fun x hx=>by
  obtain ⟨j, -,hj,hjx⟩:=(hp.mv.same x).1 hx
  exact ⟨j,hj,by rw [<- hjx,d5_get ps j hj]⟩
 have hback:∀ x ∈ d'.toList,∃ (hj:x.tag<ps.length),x=s5Of x.tag ps[x.tag]:=fun x hx=>by
  have h1:=arr_mem.1 hx
  rw [hz'] at h1
  obtain ⟨j,hj,rfl⟩:=hmem x h1
  exact ⟨hj,rfl⟩
 have hqs:(d'.toList.map fun x=>ps[x.tag]!).length=ps.length:=by rw [List.length_map,Array.length_toList,hz']
 refine ⟨d'.toList.map fun x=>ps[x.tag]!,?_,hqs,?_,?_,?_⟩
 ·have hm:=hp.mv
  have hs:=hp.s
  rw [<- hsz] at hm hs
  have hst:=stable_is hm hs (fun i hi=>by rw [d5_get ps i (by rw [<- hsz];exact hi)];rfl) (fun x hx=>by
   obtain ⟨j, -,hj,rfl⟩:=arr_mem.1 hx
   rw [hsz] at hj
   rw [d5_get ps j hj]
   exact hlv _ (List.getElem_mem hj))
  rw [hst,List.map_map]
  have hk:∀ x ∈ (d5 ps).toList,S5.lv x=Pc.lv ((P5S.pc ∘ fun x:S5=>ps[x.tag]!) x):=fun x hx=>by
   obtain ⟨j, -,hj,rfl⟩:=arr_mem.1 hx
   rw [hsz] at hj
   rw [d5_get ps j hj]
   show ps[j].lv=(ps[j]!).lv
   rw [getElem!_pos ps j hj]
  rw [sortG_congr hk,sortG_map Pc.lv]
  show sortG Pc.lv _=sortG Pc.lv _
  congr 1
  apply List.ext_getElem?
  intro i
  rw [List.getElem?_map,List.getElem?_map]
  unfold d5
  rw [List.toList_toArray,List.getElem?_mapIdx]
  cases hx:ps[i]? with
  | none=>rfl
  | some x=>
   obtain ⟨hi,rfl⟩:=List.getElem?_eq_some_iff.1 hx
   show some (P5S.pc ps[i]!)=some (P5S.pc ps[i])
   rw [getElem!_pos ps i hi]
 ·intro x hx
  obtain ⟨y,hy,rfl⟩:=List.mem_map.1 hx
  obtain ⟨hj, -⟩:=hback y hy
  show ps[y.tag]! ∈ ps
  rw [getElem!_pos ps _ hj]
  exact List.getElem_mem hj
 ·have hfl':(flatK s5L 5 d').toList=cellsS (d'.toList.map fun x=>ps[x.tag]!):=flat_cells d' _ (by rw [hqs,hz']) (fun i hi=>by
   have hi':i<d'.size:=by rw [hqs] at hi;rw [hz'];exact hi
   obtain ⟨hj,hx⟩:=hback d'[i]! (arr_mem.2 ⟨i,Nat.zero_le _,hi',rfl⟩)
   have hg:(d'.toList.map fun x=>ps[x.tag]!)[i]=ps[d'[i]!.tag]:=by
    rw [List.getElem_map]
    have h2:d'.toList[i]'(by simpa using hi')=d'[i]! := by rw [getElem!_pos d' i hi'];simp
    rw [h2]
    exact getElem!_pos ps _ hj
   rw [hg]
   conv=>lhs;rw [hx]
   rfl)
  have hgr:W.heap.size=(putRowK s5L 5 (Sort.ahead W m) g 0 d').heap.size:=by
   unfold putRowK
   rw [size_putRow]
   rfl
  have hat:w'.heap[g]? = some (.cells (putCells id 0 (flatK s5L 5 d') cur) 45):=by
   rw [hw]
   unfold sortWorldK grow
   rw [Array.getElem?_append_left (by rw [<- hgr];exact blk_lt hc)]
   unfold putRowK putRow mapBlock
   rw [Array.getElem?_modify,if_pos rfl]
   show Option.map _ (W.heap[g]?)=_
   rw [hc]
   rfl
  have hF:(flatK s5L 5 d').size=ps.length * 5:=by rw [size_flatK,hz']
  rw [hqs]
  refine ⟨by rw [cellsS_len,hqs],.inr ⟨g,cap,_,rfl,hb,hat,h6,h7,?_,?_⟩⟩
  ·unfold putCells
   rw [Array.size_mapIdx]
   exact h8
  ·rw [<- hfl',<- hF]
   exact put_take _ cur (by rw [hF,h8];omega)
 ·have hgr:W.heap.size=(putRowK s5L 5 (Sort.ahead W m) g 0 d').heap.size:=by
   unfold putRowK
   rw [size_putRow]
   rfl
  rw [hw]
  refine ⟨rfl,rfl,rfl,?_,fun x hx hne=>?_⟩
  ·unfold sortWorldK grow
   show W.heap.size<=((putRowK s5L 5 (Sort.ahead W m) g 0 d').heap++os).size
   rw [Array.size_append,<- hgr]
   omega
  ·unfold sortWorldK grow
   show ((putRowK s5L 5 (Sort.ahead W m) g 0 d').heap++os)[x]? = _
   rw [Array.getElem?_append_left (by rw [<- hgr];exact hx)]
   unfold putRowK putRow mapBlock
   show (W.heap.modify g _)[x]? = _
   rw [Array.getElem?_modify,if_neg (fun e1=>hne (by rw [e1]))]
end
section
open Go.RowKit Go.Shelf Go.Sort
set_option maxHeartbeats 2000000
theorem ins_nil (W:World):Calls Tryz.prog 124 #[.slice none 0 0,.int .i64 0,.int .i64 0,cmpV] W fun e w'=>e=.returned (.tuple #[])/\w'=W:=by
 go_enter Tryz.func124,Tryz.ntmps124
 go_wp2_with fail
 go_loopw [8] (fun y wr=>y=.int .i64 1/\wr=W) (fun _ _=>0)
 case atStart=>exact ⟨rfl,rfl⟩
 case round=>
  obtain ⟨rfl,rfl⟩:=hrel
  go_wp2_with fail
  go_end0
  exact ⟨rfl,rfl⟩
theorem stable_nil (W:World):Calls Tryz.prog 87 #[.slice none 0 0,.int .i64 0,cmpV] W fun e w'=>e=.returned (.tuple #[])/\w'=W:=by
 have IN:Calls Tryz.prog 124 #[.slice none 0 0,.int .i64 0,.int .i64 0,cmpV] W fun e w'=>e=.returned (.tuple #[])/\W=w':=(ins_nil W).mono fun _ _ h=>⟨h.1,h.2.symm⟩
 go_enter Tryz.func87,Tryz.ntmps87
 go_upto_region 2 with fail
 go_loopw [7,8] (fun x y wr=>x=.int .i64 0/\y=.int .i64 20/\wr=W) (fun _ _ _=>0)
 case atStart=>exact ⟨rfl,rfl,rfl⟩
 case round=>
  obtain ⟨rfl,rfl,rfl⟩:=hrel
  go_wp2_with (go_at_call 124;refine IN.mono ?_;rintro e w1 ⟨rfl,rfl⟩)
  go_loopw [6] (fun x w2=>x=.int .i64 20/\w2=wr) (fun _ _=>0)
  case atStart=>exact ⟨rfl,rfl⟩
  case round=>
   obtain ⟨rfl,rfl⟩:=hrel
   go_wp2_with fail
   go_end0
   exact ⟨rfl,rfl⟩
theorem sort_nil (W:World):Calls Tryz.prog 46 #[.slice none 0 0,cmpV] W fun e w'=>e=.returned (.tuple #[])/\w'=W:=by
 have SA:=stable_nil W
 go_enter Tryz.func46,Tryz.ntmps46
 go_wp2_with (go_at_call 87;refine SA.mono ?_;rintro e w1 ⟨rfl,rfl⟩)
 go_end0
 exact ⟨rfl,rfl⟩
theorem SortPcs {base:Nat} {W:World} {v:Value} (ps:List P5S) (hl:ps.length<=1000) (hlv:∀ x ∈ ps,0<=x.lv/\x.lv<1000) (ho:W.ownsRow base 45 5 v ps.length (cellsS ps)) :
  Calls Tryz.prog 46 #[v,cmpV] W fun e w'=>e=.returned (.tuple #[])/\∃ qs:List P5S,qs.map P5S.pc=sortM (ps.map P5S.pc)/\qs.length=ps.length/\(∀ x ∈ qs,x ∈ ps)/\w'.ownsRow base 45 5 v qs.length (cellsS qs)/\W.grownBy w' v.ownBlock:=by
 obtain ⟨h1,h2⟩:=id ho
 rcases h2 with ⟨rfl,h3⟩ | ⟨g,cap,cur,rfl,h3,h4,h5,h6,h7,h8⟩
 ·obtain rfl:ps=[]:=List.length_eq_zero_iff.1 h3
  refine (sort_nil W).mono fun e w' ⟨h4,h5⟩=>⟨h4,[],by simp [sortM],rfl,fun x hx=>hx,by rw [h5];exact ho,?_⟩
  rw [h5]
  exact ⟨rfl,rfl,rfl,Nat.le_refl _,fun _ _ _=>rfl⟩
 ·exact SortPcs_some ps hl hlv h3 h4 h5 h6 h7 h8
def PcsR (E:Nat->Addr) (W:World) (x:Except Ft (List Pc)) (e:Ending) (w':World):Prop:=match x with
 | .error f=>∃ u,e=.returned (.tuple #[.slice none 0 0,u])/\FtV E f W.heap.size u w'
 | .ok l=>∃ qs v,qs.map P5S.pc=l/\e=.returned (.tuple #[v,.nilIface])/\w'.ownsRow W.heap.size 45 5 v qs.length (cellsS qs)/\(∀ x ∈ qs,OwnP w' W.heap.size (ptsV x) x.pts)/\∀ x ∈ qs,∀ a ∈ x.pts,chkP a=0
end
section
open Go.RowKit Go.Shelf Go.Sort
set_option maxHeartbeats 8000000
set_option maxRecDepth 20000
theorem fold_cap {α:Type} (g:Nat × List Pc->α->Except Ft (Nat × List Pc)) (hg:∀ s x s',g s x=.ok s'->s.1<=100->s'.1<=100):∀ (l:List α) (s s':Nat × List Pc),l.foldlM g s=.ok s'->s.1<=100->s'.1<=100
 | [],s,s',h,h0=>by cases h;exact h0
 | x :: l,s,s',h,h0=>by
  rw [List.foldlM_cons] at h
  cases hx:g s x with
  | error e=>rw [hx] at h;cases h
  | ok t=>
   rw [hx] at h
   exact fold_cap g hg l t s' h (hg s x t hx h0)
theorem come_cap (M:Dm) (l:List Rl):∀ (f:Nat) (n:Int) (path:List Int) (m:Mv) (st s':Nat × List Pc),comeM M l f n path m st=.ok s'->st.1<=100->s'.1<=100
 | 0,n,path,m,st,s',h,_=>by
  unfold comeM at h
  split at h <;> cases h
 | f+1,n,path,m,st,s',h,_=>by
  unfold comeM at h
  split at h
  ·cases h
  split at h
  ·cases h
  next _ hc=>
  have h1:st.1+1<=100:=by omega
  split at h
  ·cases h;exact h1
  have PC:∀ (m':Mv) (x:Except Nat (List Qt)),pieceM M l n m' x (st.1+1,st.2)=.ok s'->s'.1<=100:=fun m' x h=>by
   unfold pieceM at h
   split at h
   ·cases h
   ·split at h
    ·cases h
    ·split at h <;> cases h <;> exact h1
  split at h
  ·cases h
  ·split at h
   ·exact PC _ _ h
   ·split at h
    ·exact PC _ _ h
    ·split at h
     ·exact fold_cap _ (fun s x s' h=>come_cap M l f x _ _ s s' h) _ (st.1+1,st.2) s' h h1
     ·split at h
      ·cases h
      ·exact come_cap M l f _ _ _ (st.1+1,st.2) s' h h1
theorem sort_end {E:Nat->Addr} {W w2:World} {WB DB:Nat} {sf:Value} {k:Nat} {ps:List P5S} {v:Value} (hb:Below W.heap.size W w2) (hs:Sc W.heap.size WB DB sf k ps v w2) (hl:ps.length<=1000) (hlv:LvIn (ps.map P5S.pc)) :
  Calls Tryz.prog 46 #[v,cmpV] w2 fun e w3=>e=.returned (.tuple #[])/\w3.cell? ⟨WB,3,none⟩=some v/\Hid (PcsR E W (.ok (sortM (ps.map P5S.pc))) (.returned (.tuple #[v,.nilIface])) w3/\Below W.heap.size W w3):=by
 refine (SortPcs ps hl (fun x hx=>hlv x.pc (List.mem_map_of_mem hx)) hs.own).mono fun e w3 ⟨h1,qs,h2,h3,h4,h5,gr⟩=>?_
 have neW:v.ownBlock≠some WB:=fun e1=>by
  obtain ⟨cs,f,h6, -⟩:=own_type hs.own WB e1
  rw [hs.wb] at h6
  cases h6
 have kW:=(gr.block WB (blk_lt hs.wb) (fun e1=>neW e1.symm)).trans hs.wb
 refine ⟨h1,bcell kW 3 _ rfl,⟨qs,v,h2,rfl,h5,fun x hx=>?_,fun x hx=>hs.rt x (h4 x hx)⟩,hb.grown gr hb.size (fun j hj=>?_)⟩
 ·have ho:=hs.pts x (h4 x hx)
  refine own_same ho fun g hg=>?_
  obtain ⟨cs,f,h6, -⟩:=own_type ho g hg
  refine gr.block g (blk_lt h6) (fun e1=>?_)
  obtain ⟨cs',f',h7, -⟩:=own_type hs.own g e1.symm
  rw [h6] at h7
  cases h7
 ·obtain ⟨-, -, -,h6⟩:=own_type hs.own j hj
  exact h6
section
variable {E:Nat->Addr} {B:Nat} {tg:Tags} {W:World} {DB MB:Nat} {p:Int->Option Nat} {M:Dm} {nx c:Nat} {r:Int->Nat} {l:List Rl} {B0:Nat} {rv:Value}
abbrev oD (DB:Nat):Obj:=.cells #[.pointer (some ⟨DB,0,none⟩)] 29
abbrev oL (rv:Value):Obj:=.cells #[rv] 104
abbrev oW (DB H:Nat):Obj:=.cells #[.pointer (some ⟨DB,0,none⟩),stV H (H+1),.int .i64 0,.slice none 0 0] 109
abbrev oP:Obj:=.cells (plA (-1) (.pointer none) .one) 116
theorem wks_new (W w1:World) (hb:Below (((W.alloc (oD DB)).alloc (oL rv)).alloc (oW DB W.heap.size)).heap.size (((W.alloc (oD DB)).alloc (oL rv)).alloc (oW DB W.heap.size)) w1):Wks (W.heap.size+2) DB W.heap.size (W.heap.size+1) rv W 0 [] (.slice none 0 0) w1:=by
 have b1:=mal W (oD DB)
 have b2:=mal (W.alloc (oD DB)) (oL rv)
 have b3:=mal ((W.alloc (oD DB)).alloc (oL rv)) (oW DB W.heap.size)
 have k1:=mbox W #[.pointer (some ⟨DB,0,none⟩)] 29
 have k2:=mbox (W.alloc (oD DB)) #[rv] 104
 have k3:=mbox ((W.alloc (oD DB)).alloc (oL rv)) #[.pointer (some ⟨DB,0,none⟩),stV W.heap.size (W.heap.size+1),.int .i64 0,.slice none 0 0] 109
 have z1:(W.alloc (oD DB)).heap.size=W.heap.size+1:=World.size_alloc _ _
 have z2:((W.alloc (oD DB)).alloc (oL rv)).heap.size=W.heap.size+2:=by rw [World.size_alloc,z1]
 have b23:=mbel b2 (mbel b3 hb)
 refine ⟨mbel b1 b23,Nat.le_add_right _ _,(b23.block _ (blk_lt k1)).trans k1,?_,⟨?_,World.ownsRow_nil _ _ _ _,fun x hx=>(by cases hx),fun x hx=>(by cases hx)⟩⟩
 ·rw [z1] at k2
  have:=((mbel b3 hb).block _ (blk_lt k2)).trans k2
  exact this
 ·rw [z2] at k3
  exact (hb.block _ (blk_lt k3)).trans k3
theorem Pieces_any (h:En E B tg W DB MB p M nx c r l B0 rv) :
  Calls Tryz.prog 13 #[.pointer (some ⟨DB,0,none⟩),rv] W fun e w'=>PcsR E W (piecesM M l) e w'/\Below W.heap.size W w':=by
 have ON:=One_any (((W.alloc (oD DB)).alloc (oL rv)).alloc (oW DB W.heap.size))
 obtain ⟨orv,crv,hrv⟩:=own_slice h.row
 subst hrv
 have CM:∀ w1,Below (((W.alloc (oD DB)).alloc (oL (.slice orv l.length crv))).alloc (oW DB W.heap.size)).heap.size (((W.alloc (oD DB)).alloc (oL (.slice orv l.length crv))).alloc (oW DB W.heap.size)) w1->Calls Tryz.prog 44 #[.pointer (some ⟨W.heap.size+2,0,none⟩),.int .i64 0,.pointer (some ⟨w1.heap.size,0,none⟩)] (w1.alloc oP) fun e w'=>ComeR E W.heap.size (W.heap.size+2) DB (stV W.heap.size (W.heap.size+1)) (.slice none 0 0) (w1.alloc oP) (comeM M l 101 0 [-1] .one (0,[])) e w'/\Kw (W.heap.size+2) (.slice none 0 0) (w1.alloc oP) w':=fun w1 hb=>
  come_any h 101 0 [] (.slice none 0 0) (w1.alloc oP) 0 (-1) .one [] w1.heap.size (by omega) Nat.le.refl (by decide) (wks_new W _ (mbel hb (mal _ _))) ⟨_,none,rfl,mbox _ _ _,rfl⟩ one_ok
 have WK:∀ w1,Below (((W.alloc (oD DB)).alloc (oL (.slice orv l.length crv))).alloc (oW DB W.heap.size)).heap.size (((W.alloc (oD DB)).alloc (oL (.slice orv l.length crv))).alloc (oW DB W.heap.size)) w1->Wks (W.heap.size+2) DB W.heap.size (W.heap.size+1) (.slice orv l.length crv) W 0 [] (.slice none 0 0) (w1.alloc oP):=fun w1 hb=>wks_new W _ (mbel hb (mal _ _))
 have HFEW:Hid (∀ st,comeM M l 101 0 [-1] .one (0,[])=.ok st->st.2.length<=1000/\LvIn st.2/\piecesM M l=.ok (sortM st.2)):=(fun st hst=>by
  have h1:=come_few M l 101 0 [-1] .one (0,[]) st hst Nat.le.refl
  have h2:=come_cap M l 101 0 [-1] .one (0,[]) st hst (Nat.zero_le _)
  refine ⟨by omega,come_lv M l 101 0 [-1] .one (0,[]) st hst (fun x hx=>(by cases hx)),?_⟩
  unfold piecesM
  rw [hst]:∀ st,comeM M l 101 0 [-1] .one (0,[])=.ok st->st.2.length<=1000/\LvIn st.2/\piecesM M l=.ok (sortM st.2))
 have HERR:Hid (∀ ft,comeM M l 101 0 [-1] .one (0,[])=.error ft->piecesM M l=.error ft):=(fun ft hst=>by unfold piecesM;rw [hst]:∀ ft,comeM M l 101 0 [-1] .one (0,[])=.error ft->piecesM M l=.error ft)
 have k1:=mcell_al (oL (.slice orv l.length crv)) (mnew W #[.pointer (some ⟨DB,0,none⟩)] 29 0 _ rfl)
 have hW0:Hid (Below W.heap.size W (((W.alloc (oD DB)).alloc (oL (.slice orv l.length crv))).alloc (oW DB W.heap.size))):=mbel (mal _ _) (mbel (mal _ _) (mal _ _))
 clear h
 obtain ⟨res,hres⟩:∃ x,comeM M l 101 0 [-1] .one (0,[])=x:=⟨_,rfl⟩
 rw [hres] at CM
 cases res with
 | error ft=>
  have HP:=HERR.out ft hres
  rw [HP]
  have CM':∀ w1,Below (((W.alloc (oD DB)).alloc (oL (.slice orv l.length crv))).alloc (oW DB W.heap.size)).heap.size (((W.alloc (oD DB)).alloc (oL (.slice orv l.length crv))).alloc (oW DB W.heap.size)) w1->Calls Tryz.prog 44 #[.pointer (some ⟨W.heap.size+2,0,none⟩),.int .i64 0,.pointer (some ⟨w1.heap.size,0,none⟩)] (w1.alloc oP) fun e w'=>∃ pb,e=.returned (.iface 143 (.pointer (some ⟨pb,0,none⟩)))/\Hid (FtV E ft (w1.alloc oP).heap.size (.iface 143 (.pointer (some ⟨pb,0,none⟩))) w'/\Below W.heap.size W w'):=fun w1 hb=>(CM w1 hb).mono fun e w' ⟨⟨u,h1,h2⟩,h3⟩=>by
   obtain ⟨pb,h4,rfl,h5⟩:=h2
   exact ⟨pb,h1,⟨pb,h4,rfl,h5⟩,(WK w1 hb).low.trans ((WK w1 hb).sc.low h3 (WK w1 hb).wb (WK w1 hb).low.size)⟩
  clear CM WK HFEW HERR hres HP
  go_enter Tryz.func13,Tryz.ntmps13
  go_wp2_with (first | (go_at_call 45;refine ON.mono ?_;rintro e w1 ⟨rfl,b1⟩;have C1:=CM' w1 b1) | (go_at_call 44;refine C1.mono ?_;rintro e w2 ⟨pb,rfl,h2⟩))
  go_ret2
  obtain ⟨h3,h4⟩:=h2.out
  have hs:=(mbel (mbel hW0.out b1) (mal w1 oP)).size
  exact ⟨⟨_,rfl,h3.low hs⟩,h4⟩
 | ok st=>
  obtain ⟨hlen,hlv,HP⟩:=HFEW.out st hres
  rw [HP]
  have CM':∀ w1,Below (((W.alloc (oD DB)).alloc (oL (.slice orv l.length crv))).alloc (oW DB W.heap.size)).heap.size (((W.alloc (oD DB)).alloc (oL (.slice orv l.length crv))).alloc (oW DB W.heap.size)) w1->Calls Tryz.prog 44 #[.pointer (some ⟨W.heap.size+2,0,none⟩),.int .i64 0,.pointer (some ⟨w1.heap.size,0,none⟩)] (w1.alloc oP) fun e w'=>e=.returned .nilIface/\∃ o n cp,w'.cell? ⟨W.heap.size+2,3,none⟩=some (.slice o n cp)/\Calls Tryz.prog 46 #[.slice o n cp,cmpV] w' fun e w3=>e=.returned (.tuple #[])/\w3.cell? ⟨W.heap.size+2,3,none⟩=some (.slice o n cp)/\Hid (PcsR E W (.ok (sortM st.2)) (.returned (.tuple #[.slice o n cp,.nilIface])) w3/\Below W.heap.size W w3):=fun w1 hb=>(CM w1 hb).mono fun e w' ⟨⟨h1,ps2,v2,h2,h3,h4⟩,h5⟩=>by
   obtain ⟨o,cp,hv⟩:=own_slice h3.own
   subst hv
   have hlow:Below W.heap.size W w':=(WK w1 hb).low.trans ((WK w1 hb).sc.low h5 (WK w1 hb).wb (WK w1 hb).low.size)
   have SE:=sort_end (E:=E) hlow h3 (by have h6:=congrArg List.length h2;rw [List.length_map] at h6;omega) (by rw [h2];exact hlv)
   rw [h2] at SE
   exact ⟨h1,o,_,cp,bcell h3.wb 3 _ rfl,SE⟩
  clear CM WK HFEW HERR hres HP
  go_enter Tryz.func13,Tryz.ntmps13
  go_wp2_with (first | (go_at_call 45;refine ON.mono ?_;rintro e w1 ⟨rfl,b1⟩;have C1:=CM' w1 b1) | (go_at_call 44;refine C1.mono ?_;rintro e w2 ⟨rfl,o,nn,cp,c3,S3⟩) | (go_at_call 46;refine S3.mono ?_;rintro e w3 ⟨rfl,c4,h2⟩))
  go_ret2
  exact h2.out
end
end
end Go.Proofs.YtgphclgmmocdhaaGreatDoor

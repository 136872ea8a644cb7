/-
  Parts of the proof.
-/
import Derived.Test.YtgphclgmmocdhaaGreatDoorQu15
import Derived.Shelf.Spec.SlicesInsertGrow
import Derived.Test.YtgphclgmmocdhaaGreatDoorQu13
import Derived.Test.YtgphclgmmocdhaaGreatDoorQu8
namespace Go.Proofs.YtgphclgmmocdhaaGreatDoor
section
open Go.RowKit
set_option maxHeartbeats 2000000
theorem zeroEl (w:World):(zeroValue 94).run Tryz.prog w=.ok (.pointer none) w:=by kernel_rfl
structure NewE (B:Nat) (tg:Tags) (w:World) (b:Nat) (e:Elm) (va vk:Value):Prop where
 cells:w.heap[b]? = some (.cells #[.string ⟨e.name.toArray⟩,va,.int .i64 e.parent,vk] 97)
 low:B<=b
 tag:tg b=none
 ats:w.ownsRow B 49 2 va e.ats.length (cellsA e.ats)
 atag:∀ g,va.ownBlock=some g->tg g=none/\g≠b
 kids:w.ownsRow B 3 1 vk e.kids.length (intsV e.kids)
 ktag:∀ g,vk.ownBlock=some g->tg g=none/\g≠b/\va.ownBlock≠some g
def tagE (tg:Tags) (i:Int) (b:Nat) (va vk:Value):Tags:=fun x=>if x=b then some (.el i) else if va.ownBlock=some x then some (.ats i) else if vk.ownBlock=some x then some (.kids i) else tg x
theorem tagE_old {tg:Tags} {i:Int} {b:Nat} {va vk:Value} {x:Nat} {t:Tg} (h:tg x=some t) (hb:tg b=none) (ha:∀ g,va.ownBlock=some g->tg g=none) (hk:∀ g,vk.ownBlock=some g->tg g=none):tagE tg i b va vk x=some t:=by
 unfold tagE
 rw [if_neg (fun e=>by rw [e,hb] at h;cases h),if_neg (fun e=>by rw [ha x e] at h;cases h),if_neg (fun e=>by rw [hk x e] at h;cases h)]
 exact h
theorem tagE_none {tg:Tags} {i:Int} {b:Nat} {va vk:Value} {x:Nat} (h1:x≠b) (h2:va.ownBlock≠some x) (h3:vk.ownBlock≠some x):tagE tg i b va vk x=tg x:=by
 unfold tagE
 rw [if_neg h1,if_neg h2,if_neg h3]
section
variable {B:Nat} {tg:Tags} {w w':World} {DB MB:Nat} {p:Int->Option Nat} {M:Dm} {nx c:Nat}
theorem DocW.add (h:DocW B tg w DB MB p M nx c) {b:Nat} {e:Elm} {va vk:Value} (hn:NewE B tg w b e va vk) (hw:Wf64 e.parent/\∀ k ∈ e.kids,Wf64 k) (hnx:nx<1000000)
  (hm:PMap Tryz.prog 3 w' MB (fun i=>if i=(nx:Int) then some b else p i) (nx+1) (c+1)) (hd:w'.heap[DB]? = some (.cells #[.map (some MB),.int .i64 ((nx+1:Nat):Int)] 92))
  (hs:∀ x,x≠DB->x≠MB->w'.heap[x]? = w.heap[x]?) (hz:w.heap.size<=w'.heap.size):DocW B (tagE tg nx b va vk) w' DB MB (fun i=>if i=(nx:Int) then some b else p i) (putE M nx e) (nx+1) (c+1):=by
 have old:∀ x t,tg x=some t->tagE tg nx b va vk x=some t:=fun x t ht=>tagE_old ht hn.tag (fun g hg=>(hn.atag g hg).1) (fun g hg=>(hn.ktag g hg).1)
 have ne:∀ x t,tg x=some t->t≠.doc->t≠.map->x≠DB/\x≠MB:=fun x t ht h1 h2=>⟨fun e=>h1 (Option.some.inj (ht.symm.trans (e ▸ h.dtag))),fun e=>h2 (Option.some.inj (ht.symm.trans (e ▸ h.mtag)))⟩
 have nne:∀ x,tg x=none->x≠DB/\x≠MB:=fun x hx=>⟨fun e=>(by rw [e,h.dtag] at hx;exact absurd hx (by simp)),fun e=>(by rw [e,h.mtag] at hx;exact absurd hx (by simp))⟩
 have hbn:=nne b hn.tag
 refine ⟨hd,old _ _ h.dtag,hm,old _ _ h.mtag,fun i f hf=>?_,fun i hi=>?_,fun x t ht=>?_,fun i f hf=>?_,fun i f hf=>?_,by omega,fun x j hj=>?_⟩
 ·unfold putE at hf
  by_cases hi:i=nx
  ·rw [if_pos hi] at hf
   cases hf
   subst hi
   refine ⟨b,va,vk,by simp,⟨(hs b hbn.1 hbn.2).trans hn.cells,by unfold tagE;rw [if_pos rfl],own_same hn.ats fun g hg=>?_,fun g hg=>?_,own_same hn.kids fun g hg=>?_,fun g hg=>?_⟩⟩
   ·have:=nne g (hn.atag g hg).1;exact hs g this.1 this.2
   ·unfold tagE;rw [if_neg (hn.atag g hg).2,if_pos hg]
   ·have:=nne g (hn.ktag g hg).1;exact hs g this.1 this.2
   ·unfold tagE;rw [if_neg (hn.ktag g hg).2.1,if_neg (hn.ktag g hg).2.2,if_pos hg]
  ·rw [if_neg hi] at hf
   obtain ⟨b',va',vk',h1,h2⟩:=h.els i f hf
   refine ⟨b',va',vk',by simp only [if_neg hi];exact h1,h2.turn fun g t ht hk=>⟨old g t ht,?_⟩⟩
   have:=ne g t ht (by rcases hk with rfl | rfl | rfl <;> simp) (by rcases hk with rfl | rfl | rfl <;> simp)
   exact hs g this.1 this.2
 ·unfold putE at hi
  by_cases hj:i=nx
  ·rw [if_pos hj] at hi;cases hi
  ·rw [if_neg hj] at hi
   simp only [if_neg hj]
   exact h.non i hi
 ·unfold tagE at ht
  split at ht
  ·rename_i e;subst e;exact ⟨hn.low,Nat.lt_of_lt_of_le (heap_lt hn.cells) hz⟩
  ·split at ht
   ·rename_i e;have:=hn.ats.lt x e;omega
   ·split at ht
    ·rename_i e;have:=hn.kids.lt x e;omega
    ·have:=h.low x t ht;omega
 ·unfold putE at hf
  by_cases hi:i=nx
  ·omega
  ·rw [if_neg hi] at hf
   have:=h.dom i f hf
   omega
 ·unfold putE at hf
  by_cases hi:i=nx
  ·rw [if_pos hi] at hf;cases hf;exact hw
  ·rw [if_neg hi] at hf;exact h.wf i f hf
 ·unfold tagE at hj
  split at hj
  ·have:(nx:Int)=j:=by simpa using hj
   omega
  ·split at hj
   ·have:(nx:Int)=j:=by simpa using hj
    omega
   ·split at hj
    ·have:(nx:Int)=j:=by simpa using hj
     omega
    ·have:=h.tnx x j hj
     omega
theorem DocW.fresh (h:DocW B tg w DB MB p M nx c):M nx=none/\p nx=none:=by
 have:M nx=none:=by
  cases hm:M nx with
  | none=>rfl
  | some e=>have:=h.dom nx e hm;omega
 exact ⟨this,h.non nx this⟩
theorem DocW.ne (h:DocW B tg w DB MB p M nx c):MB≠DB:=fun e=>by have h1:=h.dtag;rw [<- e,h.mtag] at h1;cases h1
end
theorem keep_doc (B:Nat) (tg:Tags) (w:World) (DB MB:Nat) (p:Int->Option Nat) (M:Dm) (nx c b:Nat) (e:Elm) (va vk:Value) (h:DocW B tg w DB MB p M nx c) (hn:NewE B tg w b e va vk) (hw:Wf64 e.parent/\∀ k ∈ e.kids,Wf64 k) (hnx:nx<1000000) :
  Calls Tryz.prog 36 #[.pointer (some ⟨DB,0,none⟩),.pointer (some ⟨b,0,none⟩)] w fun r w'=>r=.returned (.int .i64 nx)/\K2 DB MB w w'/\DocW B (tagE tg nx b va vk) w' DB MB (fun i=>if i=(nx:Int) then some b else p i) (putE M nx e) (nx+1) (c+1):=by
 have d0:=h.d0
 have d1:=h.d1
 have hfr:=h.fresh
 have hnx':(nx:Int)<=1000000:=by omega
 have hmx:nx<maxLen:=by rw [maxLen_eq];omega
 have hne:=h.ne
 go_enter Tryz.func36,Tryz.ntmps36
 go_wp2_with (at_mapUpdate;refine store_new _ rfl _ _ _ 90 rfl Tryz.underlying3 Tryz.underlying90 rfl h.map hmx (nx:Int) rfl (WalkArith.wf_i64 (by omega)) b rfl hfr.2 ?_;intro w1 pm1 ht1;have e0:=(ht1.grown.block DB (heap_lt h.doc) (fun e=>hne (Option.some.inj e).symm)).trans h.doc;have c0:=bcell e0 0 _ rfl;have c1:=bcell e0 1 _ rfl;have cf:=froz_at e0)
 go_ret
 have hs1:=heap_setCell_same w1 DB 1 _ _ (.int .i64 ((nx:Int)+1)) e0
 have hb:∀ x,x≠DB->x≠MB->(w1.setCell ⟨DB,1,none⟩ (.int .i64 ((nx:Int)+1))).heap[x]? = w.heap[x]? := fun x h1 h2=>by
  rw [Below.heap_setCell _ _ _ x h1]
  by_cases hx:x<w.heap.size
  ·exact ht1.grown.block x hx (fun e=>h2 (Option.some.inj e))
  ·have:w1.heap.size=w.heap.size:=by obtain ⟨es,cl,es',cl', -,rfl⟩:=ht1;simp [Go.ChangeMaps.setBlock]
   rw [Array.getElem?_eq_none (by omega),Array.getElem?_eq_none (by omega)]
 have hz:w.heap.size<=(w1.setCell ⟨DB,1,none⟩ (.int .i64 ((nx:Int)+1))).heap.size:=by
  have:=ht1.grown.size
  have:=((Below.refl DB w1).setCell (p:=⟨DB,1,none⟩) Nat.le.refl (.int .i64 ((nx:Int)+1))).size
  omega
 have hset:=(Below.refl DB w1).setCell (p:=⟨DB,1,none⟩) Nat.le.refl (.int .i64 ((nx:Int)+1))
 refine ⟨rfl,⟨hset.os.trans ht1.grown.os,hset.tape.trans ht1.grown.tape,hset.output.trans ht1.grown.output,hz,fun x _ h1 h2=>hb x h1 h2⟩,h.add hn hw hnx (pm1.same (Below.heap_setCell _ _ _ MB hne)) ?_ hb hz⟩
 rw [hs1]
 rfl
theorem Name_doc {B:Nat} {tg:Tags} {w:World} {DB MB:Nat} {p:Int->Option Nat} {M:Dm} {nx c:Nat} (h:DocW B tg w DB MB p M nx c) (n:Int) (hn:Wf64 n) :
  Calls Tryz.prog 76 #[.pointer (some ⟨DB,0,none⟩),.int .i64 n] w fun r w'=>r=.returned (.string ⟨(match M n with | none=>[] | some e=>e.name).toArray⟩)/\w'=w:=by
 have d0:=h.d0
 cases hm:M n with
 | none=>
  have hp:=h.non n hm
  go_enter Tryz.func76,Tryz.ntmps76
  go_wp2_with (at_lookup;refine look_no _ rfl _ _ 90 rfl Tryz.underlying3 Tryz.underlying90 (zeroEl _) rfl h.map n rfl hn hp ?_)
  go_ret
  exact ⟨rfl,rfl⟩
 | some e=>
  obtain ⟨b,va,vk,hp,he⟩:=h.els n e hm
  have x0:=he.c0
  go_enter Tryz.func76,Tryz.ntmps76
  go_wp2_with (at_lookup;refine look_yes _ rfl _ _ 90 rfl Tryz.underlying3 Tryz.underlying90 (zeroEl _) rfl h.map n rfl hn b hp ?_)
  go_ret
  exact ⟨rfl,rfl⟩
theorem Parent_doc {B:Nat} {tg:Tags} {w:World} {DB MB:Nat} {p:Int->Option Nat} {M:Dm} {nx c:Nat} (h:DocW B tg w DB MB p M nx c) (n:Int) (hn:Wf64 n) :
  Calls Tryz.prog 78 #[.pointer (some ⟨DB,0,none⟩),.int .i64 n] w fun r w'=>r=.returned (.int .i64 (match M n with | none => -1 | some e=>e.parent))/\w'=w:=by
 have d0:=h.d0
 cases hm:M n with
 | none=>
  have hp:=h.non n hm
  go_enter Tryz.func78,Tryz.ntmps78
  go_wp2_with (at_lookup;refine look_no _ rfl _ _ 90 rfl Tryz.underlying3 Tryz.underlying90 (zeroEl _) rfl h.map n rfl hn hp ?_)
  go_ret
  exact ⟨rfl,rfl⟩
 | some e=>
  obtain ⟨b,va,vk,hp,he⟩:=h.els n e hm
  have x0:=he.c2
  go_enter Tryz.func78,Tryz.ntmps78
  go_wp2_with (at_lookup;refine look_yes _ rfl _ _ 90 rfl Tryz.underlying3 Tryz.underlying90 (zeroEl _) rfl h.map n rfl hn b hp ?_)
  go_ret
  exact ⟨rfl,rfl⟩
end
section
open Go.RowKit
set_option maxHeartbeats 2000000
theorem cellsA_len:∀ l:List (Bs × Bs),(cellsA l).length=l.length * 2
 | []=>rfl
 | x :: r=>by simp [cellsA,cellsA_len r];omega
theorem cellsA_inv:∀ (l:List (Bs × Bs)) (j:Nat) (u:Value),(cellsA l)[j]? = some u->∃ i x,l[i]? = some x/\((j=i * 2/\u=.string ⟨x.1.toArray⟩)\/(j=i * 2+1/\u=.string ⟨x.2.toArray⟩))
 | [],j,u,h=>by simp [cellsA] at h
 | x :: r,0,u,h=>by
  simp [cellsA] at h
  exact ⟨0,x,rfl,.inl ⟨rfl,h.symm⟩⟩
 | x :: r,1,u,h=>by
  simp [cellsA] at h
  exact ⟨0,x,rfl,.inr ⟨rfl,h.symm⟩⟩
 | x :: r,j+2,u,h=>by
  have h':(cellsA r)[j]? = some u:=by simpa [cellsA] using h
  obtain ⟨i,y,h1,h2⟩:=cellsA_inv r j u h'
  exact ⟨i+1,y,by simpa using h1,h2.imp (fun h=>⟨by omega,h.2⟩) (fun h=>⟨by omega,h.2⟩)⟩
theorem cellsA_one (l:List (Bs × Bs)):∀ u ∈ cellsA l,u.oneCell'=true:=fun u hu=>by
 obtain ⟨j,hj⟩:=List.getElem?_of_mem hu
 obtain ⟨i,x, -,⟨-,rfl⟩ | ⟨-,rfl⟩⟩:=cellsA_inv l j u hj <;> rfl
theorem ats_news {w:World} {a:Addr} {ats:List (Bs × Bs)} (h:AtsAt w (some a) ats):∀ j u,(cellsA ats)[j]? = some u->w.cell? (a.add j)=some u:=fun j u hu=>by
 obtain ⟨i,x,hx,h2⟩:=cellsA_inv ats j u hu
 obtain ⟨b,off,h3,h4,h5, -⟩:=h i x hx
 cases h3
 have hadd:∀ k,(⟨b,off,none⟩:Addr).add k=⟨b,off+k,none⟩:=fun k=>by unfold Addr.add;split <;> simp_all
 rw [hadd]
 rcases h2 with ⟨rfl,rfl⟩ | ⟨rfl,rfl⟩
 ·exact h4
 ·rw [<- Nat.add_assoc];exact h5
theorem CloneA (w:World) (v:Value) (ats:List (Bs × Bs)) (h:AtsIn w v ats) (hl:ats.length<=1000000) :
  Calls Tryz.prog 35 #[v] w fun e w'=>∃ o n k,e=.returned (.slice o n k)/\w'.ownsRow w.heap.size 49 2 (.slice o n k) ats.length (cellsA ats)/\Below w.heap.size w w':=by
 obtain ⟨o,cap,rfl,h1,h2,h3,h4⟩:=h
 have q22:∀ (w:World) (a:Option Addr) (n c n' c':Nat),(binOp .eql 22 (.slice a n c) (.slice none n' c')).run Tryz.prog w=.ok (.bool a.isNone) w:=fun w a n c n' c'=>Lib.run_eql_slice_nil w _ _ a n c n' c' Tryz.underlying22
 obtain ⟨i0,hi,hz0,hz1,hz2⟩:=info_parts attrInfo
 cases o with
 | none=>
  have hc:=h3 rfl
  have hz:ats=[]:=List.length_eq_zero_iff.1 (by omega)
  subst hz
  go_enter Tryz.func35,Tryz.ntmps35
  go_wp2_with fail
  go_ret
  exact ⟨none,0,0,rfl,World.ownsRow_nil _ _ _ _,Below.refl _ _⟩
 | some a=>
  have HN:Hid (∀ j u,(cellsA ats)[j]? = some u->w.cell? (a.add j)=some u):=ats_news h4
  have HO:Hid (∀ u ∈ cellsA ats,u.oneCell'=true):=cellsA_one ats
  clear h4
  go_enter Tryz.func35,Tryz.ntmps35
  go_wp2_with (at_builtin;refine wpList_append_own _ rfl _ _ 22 rfl w.heap.size 49 i0 (.agg #[.string ⟨#[]⟩,.string ⟨#[]⟩]) 2 32 Tryz.underlying22 hi hz0 hz1 hz2 rfl (by decide) _ _ _ rfl (World.ownsRow_made w #[] 0 Nat.le.refl (Nat.zero_le _) (by simp)) a ats.length cap (cellsA ats) rfl (cellsA_len ats) (fun j u hj=>mcell_al _ (HN.out j u hj)) HO.out (by rw [maxLen_eq];omega) (by omega) (by simp) ?_;intro v7 w7 ow7 gr7 _;obtain ⟨o7,cap7,rfl⟩:=own_slice ow7)
  go_ret
  exact ⟨o7,_,cap7,rfl,by simpa using ow7,((Below.refl _ w).alloc Nat.le.refl _).grown gr7 (by simp) (fun k hk=>by have hk':some w.heap.size=some k:=hk;cases hk';exact Nat.le_refl _)⟩
mutual
def lowN:Nd->Prop
 | .mk _ ats ks=>ats.length<=12/\lowL ks
def lowL:List Nd->Prop
 | []=>True
 | k :: l=>lowN k/\lowL l
end
theorem lowL_mem:∀ {l:List Nd} {k:Nd},lowL l->k ∈ l->lowN k
 | [],_,_,h=>by simp at h
 | a :: l,k,h,hk=>by
  unfold lowL at h
  rcases List.mem_cons.1 hk with rfl | hk
  ·exact h.1
  ·exact lowL_mem h.2 hk
mutual
theorem lowN_of:∀ (n:Nd) (deep ahead:Nat),(ckN n deep ahead).1=0->lowN n
 | .mk nm ats ks,deep,ahead,h=>by
  unfold ckN at h
  split at h
  ·rename_i h1
   unfold lowN
   exact ⟨(ck1_ok h1).2.1,lowL_of ks _ _ h⟩
  ·rename_i h1;exact (h1 h).elim
theorem lowL_of:∀ (l:List Nd) (deep ahead:Nat),(ckK l deep ahead).1=0->lowL l
 | [],_,_,_=>by unfold lowL;trivial
 | k :: l,deep,ahead,h=>by
  by_cases h1:(ckN k deep ahead).1=0
  ·rw [ckK_zero h1] at h
   unfold lowL
   exact ⟨lowN_of k deep ahead h1,lowL_of l _ _ h⟩
  ·rw [ckK_pos h1] at h;exact (h1 h).elim
end
theorem szL_take_le (ks:List Nd) (i:Nat):szL (ks.take i)<=szL ks:=by
 have:=szL_app (ks.take i) (ks.drop i)
 rw [List.take_append_drop] at this
 omega
theorem take_snoc {ks:List Nd} {i:Nat} {k:Nd} (h:ks[i]? = some k):ks.take (i+1)=ks.take i++[k]:=by
 rw [List.take_add_one,h];rfl
end
section
open Go.RowKit
set_option maxHeartbeats 8000000
set_option maxRecDepth 20000
theorem own_mono {w:World} {B B' k n:Nat} {e:TypeId} {v:Value} {xs:List Value} (h:w.ownsRow B e k v n xs) (hb:B'<=B):w.ownsRow B' e k v n xs:=by
 obtain ⟨h1,h2⟩:=h
 refine ⟨h1,?_⟩
 rcases h2 with h2 | ⟨g,cap,cur,h3,h4,h5⟩
 ·exact .inl h2
 ·exact .inr ⟨g,cap,cur,h3,Nat.le_trans hb h4,h5⟩
def tagK (tg:Tags) (i:Int) (v:Value):Tags:=fun x=>if v.ownBlock=some x then some (.kids i) else tg x
theorem KdsAt.at {w:World} {o:Option Addr} {ks:List Nd} {i:Nat} {kid:Nd} (h:KdsAt w o 0 ks) (hx:ks[i]? = some kid):∃ b off c0 c1 c2,o=some ⟨b,off,none⟩/\w.cell? ⟨b,off+i * 3,none⟩=some c0/\w.cell? ⟨b,off+i * 3+1,none⟩=some c1/\w.cell? ⟨b,off+i * 3+2,none⟩=some c2/\NdC w c0 c1 c2 kid:=by
 obtain ⟨b,off,c0,c1,c2,h1,h2,h3,h4,h5⟩:=h.get hx
 rw [Nat.zero_add] at h2 h3 h4
 exact ⟨b,off,c0,c1,c2,h1,h2,h3,h4,h5⟩
theorem DocW.kid {B:Nat} {tg:Tags} {w w7:World} {DB MB:Nat} {p:Int->Option Nat} {M:Dm} {nx c EB:Nat} {i:Int} {e:Elm} {va vk v7:Value} {k:Int} {o:Obj} (h:DocW B tg w DB MB p M nx c) (hi:M i=some e) (hp:p i=some EB) (he:ElW B tg w i EB e va vk) (hk:Wf64 k)
  (ow7:w7.ownsRow B 3 1 v7 (e.kids.length+1) (intsV e.kids++[.int .i64 k])) (gr7:(w.alloc o).grownBy w7 vk.ownBlock) (loc7:v7.ownBlock=vk.ownBlock\/v7.ownBlock=some (w.alloc o).heap.size) :
  DocW B (tagK tg i v7) (w7.setCell ⟨EB,3,none⟩ v7) DB MB p (putE M i ⟨e.name,e.ats,e.parent,e.kids++[k]⟩) nx c/\(∀ x,x<w.heap.size->tagK tg i v7 x=tg x)/\(∀ x,x<w.heap.size->x≠EB->vk.ownBlock≠some x->(w7.setCell ⟨EB,3,none⟩ v7).heap[x]? = w.heap[x]?)/\w.heap.size<=(w7.setCell ⟨EB,3,none⟩ v7).heap.size/\(w7.setCell ⟨EB,3,none⟩ v7).os=w.os/\(w7.setCell ⟨EB,3,none⟩ v7).tape=w.tape/\(w7.setCell ⟨EB,3,none⟩ v7).output=w.output:=by
 have hEB:=heap_lt he.cells
 have hsz:(w.alloc o).heap.size=w.heap.size+1:=by simp
 have hz:w.heap.size+1<=w7.heap.size:=by have:=gr7.size;rw [<- hsz];exact this
 have hset:=(Below.refl EB w7).setCell (p:=⟨EB,3,none⟩) Nat.le.refl v7
 have neE:vk.ownBlock≠some EB:=fun e1=>by have h1:=he.ktag EB e1;rw [he.tag] at h1;cases h1
 have ne7:v7.ownBlock≠some EB:=fun e1=>by
  rcases loc7 with h1 | h1
  ·exact neE (h1.symm.trans e1)
  ·rw [h1] at e1;cases e1;omega
 have old:∀ x,x<w.heap.size->vk.ownBlock≠some x->w7.heap[x]? = w.heap[x]? := fun x hx hne=>by
  have h1:=gr7.block x (by show x<(w.alloc o).heap.size;omega) (fun e1=>hne e1.symm)
  exact h1.trans ((mal w o).block x hx)
 have tk:∀ x,x<w.heap.size->tagK tg i v7 x=tg x:=fun x hx=>by
  unfold tagK
  split
  ·rename_i h1
   rcases loc7 with h2 | h2
   ·exact (he.ktag x (h2.symm.trans h1)).symm
   ·rw [h2] at h1;cases h1;omega
  ·rfl
 have blk:∀ x,x<w.heap.size->x≠EB->vk.ownBlock≠some x->(w7.setCell ⟨EB,3,none⟩ v7).heap[x]? = w.heap[x]? := fun x hx h1 h2=>(Below.heap_setCell _ _ _ x h1).trans (old x hx h2)
 have hz8:w.heap.size<=(w7.setCell ⟨EB,3,none⟩ v7).heap.size:=by have:=hset.size;omega
 refine ⟨h.put hi hp (va:=va) (vk:=v7) ⟨?_,?_,?_,?_,?_,?_⟩ hz8 ⟨(h.wf i e hi).1,fun j hj=>?_⟩ tk ?_ ?_ ?_,tk,blk,hz8,hset.os.trans gr7.os,hset.tape.trans gr7.tape,hset.output.trans gr7.output⟩
 ·have h1:=(old EB hEB neE).trans he.cells
  rw [heap_setCell_same w7 EB 3 _ _ _ h1]
  rfl
 ·rw [tk EB hEB];exact he.tag
 ·exact own_same he.ats fun g hg=>blk g (he.ats.lt g hg).2 (fun e1=>by have h1:=he.atag g hg;rw [e1,he.tag] at h1;cases h1) (fun e1=>by have h1:=he.atag g hg;rw [he.ktag g e1] at h1;cases h1)
 ·intro g hg
  rw [tk g (he.ats.lt g hg).2];exact he.atag g hg
 ·have:=own_same (w':=w7.setCell ⟨EB,3,none⟩ v7) ow7 fun g hg=>Below.heap_setCell _ _ _ g (fun e1=>ne7 (by rw [hg,e1]))
  rw [intsV_app,List.length_append]
  exact this
 ·intro g hg
  unfold tagK
  rw [if_pos hg]
 ·rcases List.mem_append.1 hj with hj | hj
  ·exact (h.wf i e hi).2 j hj
  ·rw [List.mem_singleton.1 hj];exact hk
 ·intro x t ht
  unfold tagK at ht
  split at ht
  ·rename_i h1
   have h2:=ow7.lt x h1
   have:=hset.size
   omega
  ·have:=h.low x t ht
   omega
 ·intro x hx
  unfold tagK
  split
  ·exact .inr (.inr (.inr rfl))
  ·exact .inl (h.new hx)
 ·intro x t ht h1 h2 h3
  exact blk x (h.low x t ht).2 (fun e1=>by rw [e1,he.tag] at ht;cases ht;exact h1 rfl) (fun e1=>by rw [he.ktag x e1] at ht;cases ht;exact h3 rfl)
theorem kdN_len:∀ (l:List Nd) (k:Nat),(kdN k l).length=l.length
 | [],_=>rfl
 | n :: l,k=>by rw [kdN,List.length_cons,List.length_cons,kdN_len l]
theorem szL_len:∀ l:List Nd,l.length<=szL l
 | []=>Nat.le_refl _
 | n :: l=>by have h1:=szL_len l;have h2:=szN_pos n;rw [szL,List.length_cons];omega
theorem K2.of_drew {r n k:Nat} {A B:World} (h:K2 r n (A.drewN k) B):K2 r n A B:=⟨h.os,h.tape,h.output,h.size,h.block⟩
theorem kid_block {B:Nat} {tg:Tags} {wr U1 w4 w7:World} {DB MB EB:Nat} {i:Int} {e:Elm} {va vk:Value} {o:Obj} (he:ElW B tg wr i EB e va vk) (bU:Below wr.heap.size wr U1) (k4:K2 DB MB U1 w4) (hd:EB≠DB/\EB≠MB) (gr7:(w4.alloc o).grownBy w7 vk.ownBlock):w7.heap[EB]? = some (.cells #[.string ⟨e.name.toArray⟩,va,.int .i64 e.parent,vk] 97):=by
 have h1:=heap_lt he.cells
 have h2:=bU.size
 have h3:=k4.size
 have h4:(w4.alloc o).heap.size=w4.heap.size+1:=by simp
 have h5:=gr7.block EB (by show EB<(w4.alloc o).heap.size;omega) (fun e1=>by have h6:=he.ktag EB e1.symm;rw [he.tag] at h6;cases h6)
 exact h5.trans (((mal w4 o).block EB (by omega)).trans ((k4.block EB (by omega) hd.1 hd.2).trans ((bU.block EB h1).trans he.cells)))
def PutOk (W0:World) (PD PP DB MB:Nat) (n:Nd):Prop:=∀ (c0 c1 c2:Value) (parent:Int) (tg:Tags) (W:World) (p:Int->Option Nat) (M:Dm) (nx c:Nat),NdC W0 c0 c1 c2 n->lowN n->Below W0.heap.size W0 W->W.cell? ⟨PD,0,none⟩=some (.pointer (some ⟨DB,0,none⟩))->W.cell? ⟨PP,0,none⟩=some (.func (.func 34) #[] #[.pointer (some ⟨PD,0,none⟩),.pointer (some ⟨PP,0,none⟩)])->
 DocW W0.heap.size tg W DB MB p M nx c->tg PD=none->tg PP=none->Wf64 parent->nx+szN n<=1000000->
 Calls Tryz.prog 34 #[.agg #[c0,c1,c2],.int .i64 parent,.pointer (some ⟨PD,0,none⟩),.pointer (some ⟨PP,0,none⟩)] W fun e w'=>e=.returned (.int .i64 nx)/\K2 DB MB W w'/\∃ tg' p',(∀ x,x<W.heap.size->tg' x=tg x)/\(∀ i,i<(nx:Int)->p' i=p i)/\DocW W0.heap.size tg' w' DB MB p' (extE M nx (elN nx parent n)) (nx+szN n) (c+szN n)
def PutR (W0 W:World) (tg:Tags) (p:Int->Option Nat) (M:Dm) (DB MB N EB nx c:Nat) (cs:Array Value) (nm:Bs) (ats:List (Bs × Bs)) (parent:Int) (ks:List Nd) (wr:World):Prop:=
 ∃ tg1 p1,K2 DB MB W wr/\wr.heap[N]? = some (.cells cs 25)/\tg1 N=none/\(∀ x,x<W.heap.size->tg1 x=tg x)/\(∀ j,j<(nx:Int)->p1 j=p j)/\p1 nx=some EB/\DocW W0.heap.size tg1 wr DB MB p1 (extE M nx (⟨nm,ats,parent,kdN (nx+1) ks⟩ :: elL (nx+1) nx ks)) (nx+1+szL ks) (c+1+szL ks)
theorem put_step {W0 W wr U1 w4 w7:World} {tg tg1 tg2:Tags} {p p1 p2:Int->Option Nat} {M:Dm} {DB MB N EB nx c:Nat} {cs:Array Value} {nm:Bs} {ats:List (Bs × Bs)} {parent:Int} {ks:List Nd} {kid:Nd} {i:Nat} {va vk v7:Value} {o:Obj}
  (hx:ks[i]? = some kid) (k1:K2 DB MB W wr) (hN:wr.heap[N]? = some (.cells cs 25)) (tN:tg1 N=none) (ht1:∀ x,x<W.heap.size->tg1 x=tg x) (hp1:∀ j,j<(nx:Int)->p1 j=p j) (hpE:p1 nx=some EB)
  (hd1:DocW W0.heap.size tg1 wr DB MB p1 (extE M nx (⟨nm,ats,parent,kdN (nx+1) (ks.take i)⟩ :: elL (nx+1) nx (ks.take i))) (nx+1+szL (ks.take i)) (c+1+szL (ks.take i))) (he:ElW W0.heap.size tg1 wr nx EB ⟨nm,ats,parent,kdN (nx+1) (ks.take i)⟩ va vk)
  (bU:Below wr.heap.size wr U1) (k4:K2 DB MB U1 w4) (ht2:∀ x,x<U1.heap.size->tg2 x=tg1 x) (hp2:∀ j,j<((nx+1+szL (ks.take i):Nat):Int)->p2 j=p1 j) (hd0:DocW W0.heap.size tg W DB MB p M nx c)
  (hd2:DocW W0.heap.size tg2 w4 DB MB p2 (extE (extE M nx (⟨nm,ats,parent,kdN (nx+1) (ks.take i)⟩ :: elL (nx+1) nx (ks.take i))) (nx+1+szL (ks.take i)) (elN (nx+1+szL (ks.take i)) nx kid)) (nx+1+szL (ks.take i)+szN kid) (c+1+szL (ks.take i)+szN kid))
  (ow7:w7.ownsRow W0.heap.size 3 1 v7 ((kdN (nx+1) (ks.take i)).length+1) (intsV (kdN (nx+1) (ks.take i))++[.int .i64 ((nx+1+szL (ks.take i):Nat):Int)])) (gr7:(w4.alloc o).grownBy w7 vk.ownBlock) (loc7:v7.ownBlock=vk.ownBlock\/v7.ownBlock=some (w4.alloc o).heap.size) :
  PutR W0 W tg p M DB MB N EB nx c cs nm ats parent (ks.take (i+1)) (w7.setCell ⟨EB,3,none⟩ v7):=by
 have hs1:=bU.size
 have hEBw:=heap_lt he.cells
 have hnew:W.heap.size<=EB:=by
  rcases Nat.lt_or_ge EB W.heap.size with h | h
  ·have h1:=he.tag
   rw [ht1 EB h] at h1
   have:=hd0.tnx EB nx (.inl h1)
   omega
  ·exact h
 have hknew:∀ g,vk.ownBlock=some g->W.heap.size<=g:=fun g hg=>by
  rcases Nat.lt_or_ge g W.heap.size with h | h
  ·have h1:=he.ktag g hg
   rw [ht1 g h] at h1
   have:=hd0.tnx g nx (.inr (.inr h1))
   omega
  ·exact h
 have ne:∀ x t,tg1 x=some t->t≠.doc->t≠.map->x≠DB/\x≠MB:=fun x t hxt h1 h2=>⟨fun e=>h1 (Option.some.inj (hxt.symm.trans (e ▸ hd1.dtag))),fun e=>h2 (Option.some.inj (hxt.symm.trans (e ▸ hd1.mtag)))⟩
 have same4:∀ x,x<wr.heap.size->x≠DB->x≠MB->w4.heap[x]? = wr.heap[x]? := fun x h h1 h2=>(k4.block x (by omega) h1 h2).trans (bU.block x h)
 have he2:ElW W0.heap.size tg2 w4 nx EB ⟨nm,ats,parent,kdN (nx+1) (ks.take i)⟩ va vk:=he.turn fun g t ht hk=>by
  have hg:=(hd1.low g t ht).2
  have hn:=ne g t ht (by rcases hk with rfl | rfl | rfl <;> simp) (by rcases hk with rfl | rfl | rfl <;> simp)
  exact ⟨(ht2 g (by omega)).trans ht,same4 g hg hn.1 hn.2⟩
 have hM:extE (extE M nx (⟨nm,ats,parent,kdN (nx+1) (ks.take i)⟩ :: elL (nx+1) nx (ks.take i))) (nx+1+szL (ks.take i)) (elN (nx+1+szL (ks.take i)) nx kid)=extE M nx (⟨nm,ats,parent,kdN (nx+1) (ks.take i)⟩ :: (elL (nx+1) nx (ks.take i)++elN (nx+1+szL (ks.take i)) nx kid)):=by
  have h1:=extE_app M nx (⟨nm,ats,parent,kdN (nx+1) (ks.take i)⟩ :: elL (nx+1) nx (ks.take i)) (elN (nx+1+szL (ks.take i)) nx kid)
  rw [List.length_cons,elL_len,show nx+(szL (ks.take i)+1)=nx+1+szL (ks.take i) from by omega] at h1
  rw [h1,List.cons_append]
 rw [hM] at hd2
 have hpE2:p2 nx=some EB:=(hp2 nx (by omega)).trans hpE
 obtain ⟨r1,r2,r3,r4,r5,r6,r7⟩:=hd2.kid (k:=((nx+1+szL (ks.take i):Nat):Int)) (extE_at M nx _ _) hpE2 he2 (WalkArith.wf_i64 (by have:=hd2.few;omega)) ow7 gr7 loc7
 rw [extE_head] at r1
 have hN4:N<wr.heap.size:=heap_lt hN
 have nN:=ne
 have hNd:N≠DB/\N≠MB:=⟨fun e=>(by rw [e,hd1.dtag] at tN;exact absurd tN (by simp)),fun e=>(by rw [e,hd1.mtag] at tN;exact absurd tN (by simp))⟩
 have hNE:N≠EB:=fun e=>by rw [e,he.tag] at tN;cases tN
 have hNk:vk.ownBlock≠some N:=fun e=>by rw [he.ktag N e] at tN;cases tN
 have s4:=k4.size
 refine ⟨tagK tg2 nx v7,p2,?_,?_,?_,fun x h=>?_,fun j hj=>?_,hpE2,?_⟩
 ·have s1:=k1.size
  refine ⟨r5.trans (k4.os.trans (bU.os.trans k1.os)),r6.trans (k4.tape.trans (bU.tape.trans k1.tape)),r7.trans (k4.output.trans (bU.output.trans k1.output)),by omega,fun x h h1 h2=>?_⟩
  exact (r3 x (by omega) (by omega) (fun e=>by have:=hknew x e;omega)).trans ((same4 x (by omega) h1 h2).trans (k1.block x h h1 h2))
 ·exact (r3 N (by omega) hNE hNk).trans ((same4 N hN4 hNd.1 hNd.2).trans hN)
 ·rw [r2 N (by omega),ht2 N (by omega)];exact tN
 ·have:=k1.size
  rw [r2 x (by omega),ht2 x (by omega)];exact ht1 x h
 ·rw [hp2 j (by omega)];exact hp1 j hj
 ·rw [take_snoc hx,kdN_snoc,elL_snoc,szL_app,szL,szL]
  have e1:nx+1+(szL (ks.take i)+(szN kid+0))=nx+1+szL (ks.take i)+szN kid:=by omega
  have e2:c+1+(szL (ks.take i)+(szN kid+0))=c+1+szL (ks.take i)+szN kid:=by omega
  rw [e1,e2]
  exact r1
theorem DocW.tell {B:Nat} {tg:Tags} {w:World} {DB MB:Nat} {p:Int->Option Nat} {M:Dm} {nx c EB:Nat} {i:Int} {e:Elm} (h:DocW B tg w DB MB p M nx c) (hi:M i=some e) (hp:p i=some EB):∃ va o k,ElW B tg w i EB e va (.slice o e.kids.length k):=by
 obtain ⟨b,va,vk,h1,h2⟩:=h.els i e hi
 obtain rfl:EB=b:=Option.some.inj (hp.symm.trans h1)
 obtain ⟨o,cap,rfl⟩:=own_slice h2.kids
 exact ⟨va,o,cap,h2⟩
theorem put_any (W0:World) (PD PP DB MB:Nat):∀ n,PutOk W0 PD PP DB MB n:=by
 refine Nd.ind fun nm ats ks ih=>?_
 intro c0 c1 c2 parent tg W p M nx c hn hlow hb cD cP hd tD tP hwp hnx
 have hn':=hn
 unfold NdC at hn'
 obtain ⟨rfl,hl,hats,ok,capk,rfl,hkc,hkm,hk0,hks⟩:=hn'
 have hats':=hats
 obtain ⟨o1,cap1,rfl, -⟩:=hats'
 unfold lowN at hlow
 obtain ⟨hla,hlk⟩:=hlow
 unfold strV at *
 have A0:NB W.heap.size (.string ⟨nm.toArray⟩) (.slice o1 ats.length cap1) (.slice ok ks.length capk) (W.alloc (.cells #[.string ⟨nm.toArray⟩,.slice o1 ats.length cap1,.slice ok ks.length capk] 25)):=mbox W #[.string ⟨nm.toArray⟩,.slice o1 ats.length cap1,.slice ok ks.length capk] 25
 have b0:=mal W (.cells #[.string ⟨nm.toArray⟩,.slice o1 ats.length cap1,.slice ok ks.length capk] 25)
 have HKS:Hid (KdsAt W0 ok 0 ks):=hks
 have IH:Hid (∀ k ∈ ks,PutOk W0 PD PP DB MB k):=ih
 have HD:Hid (DocW W0.heap.size tg W DB MB p M nx c):=hd
 have HLK:Hid (lowL ks):=hlk
 have hqD:PD≠DB/\PD≠MB:=⟨fun e=>(by rw [e,hd.dtag] at tD;exact absurd tD (by simp)),fun e=>(by rw [e,hd.mtag] at tD;exact absurd tD (by simp))⟩
 have hqP:PP≠DB/\PP≠MB:=⟨fun e=>(by rw [e,hd.dtag] at tP;exact absurd tP (by simp)),fun e=>(by rw [e,hd.mtag] at tP;exact absurd tP (by simp))⟩
 have lD:=hd.low _ _ hd.dtag
 have lM:=hd.low _ _ hd.mtag
 have lPD:=cell_lt3 cD
 have lPP:=cell_lt3 cP
 simp only at lPD lPP
 clear hks ih hd hlk hn
 have hsz:szN (.mk nm ats ks)=szL ks+1:=by rw [szN]
 rw [hsz] at hnx
 go_enter Tryz.func34,Tryz.ntmps34
 go_upto_region 1 with fail
 obtain ⟨V,hV⟩:∃ V,W.alloc (.cells #[.string ⟨nm.toArray⟩,.slice o1 ats.length cap1,.slice ok ks.length capk] 25)=V:=⟨_,rfl⟩
 have sV:V.heap.size=W.heap.size+1:=by rw [<- hV];simp
 obtain ⟨N,hN⟩:∃ N,W.heap.size=N:=⟨_,rfl⟩
 rw [hV] at A0 b0 ⊢
 rw [hN] at A0 ⊢
 have HN:Hid (W.heap.size=N):=hN
 have HV:Hid (V.heap.size=N+1):=(by rw [sV,hN]:V.heap.size=N+1)
 clear hV hN sV
 have x0:=A0.c0
 have x1:=A0.c1
 have bV:=hb.trans (b0.mono hb.size)
 have CL:=fun V' (hv:Below V.heap.size V V')=>CloneA V' _ ats (hats.below (bV.trans (hv.mono bV.size))) (by omega)
 go_region_held3 (fun w'=>w'.cell? ⟨N,0,none⟩=some (.string ⟨nm.toArray⟩)/\w'.cell? ⟨N,1,none⟩=some (.slice o1 ats.length cap1)) (refine ⟨?_,?_⟩ <;> first | assumption | exact mcell_al _ (by assumption)) (first | (go_at_call 35;refine (CL _ (mdrew 1 (Below.refl _ _))).mono ?_;rintro e w2 ⟨o2,n2,k2,rfl,ow2,b2⟩;have x0:=(b2.cell (cell_lt3 x0)).trans x0;have x1:=(b2.cell (cell_lt3 x1)).trans x1))
 have b2':Below V.heap.size V w2:=⟨b2.os,b2.tape,b2.output,b2.size,b2.block⟩
 have ow2':w2.ownsRow V.heap.size 49 2 (.slice o2 n2 k2) ats.length (cellsA ats):=ow2
 have E0:=mbox w2 #[.string ⟨nm.toArray⟩,.slice o2 n2 k2,.int .i64 parent,.slice none 0 0] 97
 have bE:=mal w2 (.cells #[.string ⟨nm.toArray⟩,.slice o2 n2 k2,.int .i64 parent,.slice none 0 0] 97)
 have ow3:=World.ownsRow.alloc ow2' (.cells #[.string ⟨nm.toArray⟩,.slice o2 n2 k2,.int .i64 parent,.slice none 0 0] 97)
 have lt2:=ow2'.lt
 obtain ⟨U,hU⟩:∃ U,w2.alloc (.cells #[.string ⟨nm.toArray⟩,.slice o2 n2 k2,.int .i64 parent,.slice none 0 0] 97)=U:=⟨_,rfl⟩
 obtain ⟨EB,hEB⟩:∃ EB,w2.heap.size=EB:=⟨_,rfl⟩
 rw [hU] at E0 bE ow3 ⊢
 rw [hEB] at E0 ⊢
 have hVE:V.heap.size<=EB:=by rw [<- hEB];exact b2'.size
 have HB2:Hid (∀ g,(Value.slice o2 n2 k2).ownBlock=some g->V.heap.size<=g/\g<EB):=(fun g hg=>by rw [<- hEB];exact lt2 g hg:∀ g,(Value.slice o2 n2 k2).ownBlock=some g->V.heap.size<=g/\g<EB)
 clear hU hEB x0 x1 CL b2 ow2 ow2' lt2
 have bU:Below V.heap.size V U:=mbel b2' bE
 clear b2' bE
 have bWU:Below W.heap.size W U:=mbel b0 bU
 have HDU:Hid (DocW W0.heap.size tg U DB MB p M nx c):=HD.out.below bWU
 have hNE:N+1<=EB:=by have:=HV.out;omega
 have NE:NewE W0.heap.size tg U EB ⟨nm,ats,parent,[]⟩ (.slice o2 n2 k2) (.slice none 0 0):=⟨E0,by have:=HN.out;have:=hb.size;omega,HD.out.new (by have:=HN.out;omega),own_mono ow3 (Nat.le_trans hb.size b0.size),fun g hg=>by
   have:=HB2.out g hg
   have h2:=HN.out
   have h3:=HV.out
   exact ⟨HD.out.new (by omega),by omega⟩,World.ownsRow_nil _ _ _ _,fun g hg=>by cases hg⟩
 have KE:=keep_doc W0.heap.size tg U DB MB p M nx c EB ⟨nm,ats,parent,[]⟩ (.slice o2 n2 k2) (.slice none 0 0) HDU.out NE ⟨hwp,by simp⟩ (by omega)
 have AU:=(bU.block N (heap_lt A0)).trans A0
 have cDU:=(bWU.cell (cell_lt3 cD)).trans cD
 have cPU:=(bWU.cell (cell_lt3 cP)).trans cP
 have hND:N≠DB/\N≠MB:=by have:=HN.out;omega
 go_upto_region 3 with (go_at_call 36;refine KE.mono ?_;rintro e w3 ⟨rfl,k3,d3⟩)
 have A3:=(k3.block N (heap_lt AU) hND.1 hND.2).trans AU
 have y2:=NB.c2 A3
 have hkm':(ks.length:Int)<=9223372036854775807:=by rw [maxLen_eq] at hkm;omega
 have K3:K2 DB MB W w3:=(K2.of_below bWU).trans k3
 have R0:PutR W0 W tg p M DB MB N EB nx c #[.string ⟨nm.toArray⟩,.slice o1 ats.length cap1,.slice ok ks.length capk] nm ats parent (ks.take 0) w3:=by
  refine ⟨tagE tg nx EB (.slice o2 n2 k2) (.slice none 0 0),fun i=>if i=(nx:Int) then some EB else p i,K3,A3,?_,fun x hx=>?_,fun j hj=>?_,?_,?_⟩
  rotate_left 4
  ·rw [List.take_zero,kdN,elL,extE_one]
   exact d3
  ·have h2:=HN.out
   rw [tagE_none (by omega) (fun e=>by have:=HB2.out N e;have:=HV.out;omega) (by simp [Value.ownBlock])]
   exact HD.out.new (by omega)
  ·have h2:=HN.out
   exact tagE_none (by omega) (fun e=>by have:=HB2.out x e;have:=HV.out;omega) (by simp [Value.ownBlock])
  ·simp only [if_neg (show ¬ j=(nx:Int) by omega)]
  ·simp
 have HR0:Hid (PutR W0 W tg p M DB MB N EB nx c #[.string ⟨nm.toArray⟩,.slice o1 ats.length cap1,.slice ok ks.length capk] nm ats parent (ks.take 0) w3):=R0
 clear R0 d3 KE NE k3 cDU cPU
 go_wp2_with fail
 go_loopw [25] (fun y wr=>∃ i:Nat,i<=ks.length/\y=.int .i64 i/\PutR W0 W tg p M DB MB N EB nx c #[.string ⟨nm.toArray⟩,.slice o1 ats.length cap1,.slice ok ks.length capk] nm ats parent (ks.take i) wr) (fun y _=>ks.length - (intOf y).toNat)
 case atStart=>exact ⟨0,Nat.zero_le _,rfl,HR0.out⟩
 case round=>
  obtain ⟨i,hi,rfl,tg1,p1,k1,hN1,tN1,ht1,hp1,hpE,hd1⟩:=hrel
  by_cases hlt:i<ks.length
  ·have hlt':(i:Int)<(ks.length:Int):=by omega
   obtain ⟨kid,hx, -⟩:=drop_at hlt
   obtain ⟨b',off',d0,d1,d2,rfl,e0,e1,e2,hkid⟩:=HKS.out.at hx
   have hmem:kid ∈ ks:=List.mem_of_getElem? hx
   have HI:=IH.out kid hmem
   have hlkid:=lowL_mem HLK.out hmem
   have hkid':=hkid
   obtain ⟨nm',ats',ks'⟩:=kid
   unfold NdC at hkid'
   obtain ⟨rfl, -,⟨o',cap',rfl, -⟩,ok',capk',rfl, -⟩:=hkid'
   have bR:Below W0.heap.size W0 wr:=hb.trans (k1.below lD.1 lM.1 hb.size)
   have f0:=(bR.cell (cell_lt3 e0)).trans e0
   have f1:=(bR.cell (cell_lt3 e1)).trans e1
   have f2:=(bR.cell (cell_lt3 e2)).trans e2
   unfold strV at f0 f1 f2 hkid
   clear e0 e1 e2 hmem
   have hsl:=szL_take_le ks (i+1)
   rw [take_snoc hx,szL_app,szL,szL] at hsl
   generalize hKID:Nd.mk nm' ats' ks'=kid at hx HI hlkid hkid hsl
   obtain ⟨KL,hKL⟩:∃ KL,kdN (nx+1) (ks.take i)=KL:=⟨_,rfl⟩
   have hKLl:KL.length<=1000000:=by
    rw [<- hKL,kdN_len]
    have:=szL_len (ks.take i)
    omega
   obtain ⟨NX,hNX⟩:∃ NX,nx+1+szL (ks.take i)=NX:=⟨_,rfl⟩
   rw [hNX] at hd1
   have hd1':=hd1
   rw [hKL] at hd1'
   obtain ⟨va,ov,kv,he⟩:=hd1'.tell (extE_at M nx _ _) hpE
   simp only at he
   have c3:=he.c3
   have cD1:=k1.cell cD hqD.1 hqD.2
   have cP1:=k1.cell cP hqP.1 hqP.2
   have s1:=k1.size
   have hEd:EB≠DB/\EB≠MB:=by have:=HN.out;omega
   have hEP:PP≠EB:=by have:=HN.out;omega
   have bU:=mal wr (.cells #[.string ⟨nm'.toArray⟩,.slice o' ats'.length cap',.slice ok' ks'.length capk'] 25)
   have u0:=mnew wr #[.string ⟨nm'.toArray⟩,.slice o' ats'.length cap',.slice ok' ks'.length capk'] 25 0 (.string ⟨nm'.toArray⟩) rfl
   have u1:=mnew wr #[.string ⟨nm'.toArray⟩,.slice o' ats'.length cap',.slice ok' ks'.length capk'] 25 1 (.slice o' ats'.length cap') rfl
   have u2:=mnew wr #[.string ⟨nm'.toArray⟩,.slice o' ats'.length cap',.slice ok' ks'.length capk'] 25 2 (.slice ok' ks'.length capk') rfl
   have cPU:=mcell_al (.cells #[.string ⟨nm'.toArray⟩,.slice o' ats'.length cap',.slice ok' ks'.length capk'] 25) cP1
   have cDU:=mcell_al (.cells #[.string ⟨nm'.toArray⟩,.slice o' ats'.length cap',.slice ok' ks'.length capk'] 25) cD1
   have c3U:=mcell_al (.cells #[.string ⟨nm'.toArray⟩,.slice o' ats'.length cap',.slice ok' ks'.length capk'] 25) c3
   have hEBw:=heap_lt he.cells
   have hKBE:wr.heap.size≠EB:=by omega
   have hKBd:wr.heap.size≠DB/\wr.heap.size≠MB:=by omega
   have HC:=fun V' (hv:Below (wr.alloc (.cells #[.string ⟨nm'.toArray⟩,.slice o' ats'.length cap',.slice ok' ks'.length capk'] 25)).heap.size (wr.alloc (.cells #[.string ⟨nm'.toArray⟩,.slice o' ats'.length cap',.slice ok' ks'.length capk'] 25)) V')=>HI _ _ _ nx tg1 V' p1 _ NX (c+1+szL (ks.take i)) hkid hlkid (bR.trans ((mbel bU hv).mono bR.size)) ((hv.cell (cell_lt3 cDU)).trans cDU) ((hv.cell (cell_lt3 cPU)).trans cPU) (hd1.below (mbel bU hv)) ((ht1 PD lPD).trans tD) ((ht1 PP lPP).trans tP) (WalkArith.wf_i64 (by omega)) (by omega)
   have HST:Hid (K2 DB MB W wr/\tg1 N=none/\(∀ x,x<W.heap.size->tg1 x=tg x)/\(∀ j,j<(nx:Int)->p1 j=p j)/\p1 nx=some EB/\ks[i]? = some kid/\nx+1+szL (ks.take i)=NX/\kdN (nx+1) (ks.take i)=KL):=⟨k1,tN1,ht1,hp1,hpE,hx,hNX,hKL⟩
   have HD1:Hid (DocW W0.heap.size tg1 wr DB MB p1 (extE M nx (⟨nm,ats,parent,kdN (nx+1) (ks.take i)⟩ :: elL (nx+1) nx (ks.take i))) NX (c+1+szL (ks.take i))):=hd1
   have HEL:Hid (ElW W0.heap.size tg1 wr nx EB ⟨nm,ats,parent,KL⟩ va (.slice ov KL.length kv)):=he
   have HOW:∀ w4,K2 DB MB (wr.alloc (.cells #[.string ⟨nm'.toArray⟩,.slice o' ats'.length cap',.slice ok' ks'.length capk'] 25)) w4->w4.ownsRow W0.heap.size 3 1 (.slice ov KL.length kv) KL.length (intsV KL):=fun w4 k4=>own_same he.kids fun g hg=>by
    have h1:=he.ktag g hg
    have h2:=(he.kids.lt g hg).2
    exact (k4.block g (by have:=bU.size;omega) (fun e=>by rw [e,hd1.dtag] at h1;cases h1) (fun e=>by rw [e,hd1.mtag] at h1;cases h1)).trans (bU.block g h2)
   clear hd1 hd1' he k1 tN1 ht1 hp1 hpE hx hNX hKL HI hkid hlkid c3 cP1 cD1 cDU
   obtain ⟨i0,hi0,hz0,hz1,hz2⟩:=info_parts intInfo
   go_upto_region 6 with fail
   obtain ⟨U1,hU1⟩:∃ U,wr.alloc (.cells #[.string ⟨nm'.toArray⟩,.slice o' ats'.length cap',.slice ok' ks'.length capk'] 25)=U:=⟨_,rfl⟩
   obtain ⟨KB,hKB⟩:∃ KB,wr.heap.size=KB:=⟨_,rfl⟩
   rw [hU1] at bU u0 u1 u2 cPU c3U HC HOW ⊢
   rw [hKB] at u0 u1 u2 hKBE hKBd ⊢
   have hBU:W0.heap.size<=U1.heap.size:=by have:=bU.size;have:=bR.size;omega
   clear hU1
   go_region_law (first | (refine step_append_lies _ rfl (.tmp 33) (.tmp 38) 72 rfl W0.heap.size 3 i0 (.int .i64 0) 1 8 Tryz.underlying72 hi0 hz0 hz1 hz2 rfl (by decide) (.slice ov KL.length kv) KL.length (intsV KL) rfl (World.ownsRow.alloc ow4 _) ⟨w4.heap.size,0,none⟩ 1 1 [.int .i64 NX] rfl rfl (World.news_of_block H04) (fun u hu=>by simp at hu;rcases hu with rfl;rfl) (by decide) (by rw [maxLen_eq];omega) (by omega) (by simp;omega) _ rfl ?_;intro g7 cap7 w7 ow7 gr7 hat7 hlt7;have e7:=E7 gr7;have e0:=bcell e7 3 _ rfl;have ef:=froz_at e7) | (go_simp;go_wp2_with (first | (go_at_call 34;refine (HC _ (mdrew 1 (Below.refl _ _))).mono ?_;rintro e w4 ⟨rfl,k4,tg2,p2,ht2,hp2,hd2⟩;have c34:=K2.cell k4 (by exact c3U) hEd.1 hEd.2;have c34':=fun o=>mcell_al o c34;have ow4:=HOW _ (by exact K2.of_drew k4);have H04:=mbox w4 #[.int .i64 NX] 3;have l4:W0.heap.size<=w4.heap.size:=(Nat.le_trans hBU k4.size);have E7:=fun {o:Obj} {w7:World}=>kid_block (o:=o) (w7:=w7) HEL.out bU (K2.of_drew k4) hEd))))
   all_goals (
    have FIN:PutR W0 W tg p M DB MB N EB nx c #[.string ⟨nm.toArray⟩,.slice o1 ats.length cap1,.slice (some ⟨b',off',none⟩) ks.length capk] nm ats parent (ks.take (i+1)) (w7.setCell ⟨EB,3,none⟩ (.slice (some ⟨g7,0,none⟩) (KL.length+1) cap7)):=by
     obtain ⟨k1,tN1,ht1,hp1,hpE,hx,hNX,hKL⟩:=HST.out
     have hd1:=HD1.out
     have he:=HEL.out
     clear HC HOW
     subst hNX
     subst hKL
     exact put_step hx k1 hN1 tN1 ht1 hp1 hpE hd1 he bU (K2.of_drew k4) ht2 hp2 HD.out hd2 ow7 gr7 (hat7.imp (fun h=>by rw [h];rfl) (fun h=>by rw [h];rfl))
    have HFIN:Hid (PutR W0 W tg p M DB MB N EB nx c #[.string ⟨nm.toArray⟩,.slice o1 ats.length cap1,.slice (some ⟨b',off',none⟩) ks.length capk] nm ats parent (ks.take (i+1)) (w7.setCell ⟨EB,3,none⟩ (.slice (some ⟨g7,0,none⟩) (KL.length+1) cap7))):=FIN
    clear FIN ow7 gr7 hd2 ht2 hp2 k4 HC HOW
    go_wp2_with fail
    go_roundw
    case rel=>exact ⟨i+1,by omega,by go_num,HFIN.out⟩
    case measure=>simp [intOf];omega)
  ·obtain rfl:i=ks.length:=by omega
   have hge:¬ (ks.length:Int)<(ks.length:Int):=by omega
   rw [List.take_length] at hd1
   have HD1:Hid (DocW W0.heap.size tg1 wr DB MB p1 (extE M nx (elN nx parent (.mk nm ats ks))) (nx+szN (.mk nm ats ks)) (c+szN (.mk nm ats ks))):=(by
    rw [elN,hsz,show nx+(szL ks+1)=nx+1+szL ks from by omega,show c+(szL ks+1)=c+1+szL ks from by omega]
    exact hd1:DocW W0.heap.size tg1 wr DB MB p1 (extE M nx (elN nx parent (.mk nm ats ks))) (nx+szN (.mk nm ats ks)) (c+szN (.mk nm ats ks)))
   clear hd1
   go_wp2_with fail
   go_ret
   exact ⟨rfl,k1,tg1,ht1,p1,hp1,HD1.out⟩
end
section
open Go.RowKit
set_option maxHeartbeats 4000000
set_option maxRecDepth 20000
def tag0 (DB MB:Nat):Tags:=fun x=>if x=DB then some .doc else if x=MB then some .map else none
theorem DocW.made {B:Nat} {w:World} {DB MB:Nat} (hd:w.heap[DB]? = some (.cells #[.map (some MB),.int .i64 0] 92)) (hm:PMap Tryz.prog 3 w MB (fun _=>none) 0 0) (hne:MB≠DB) (h1:B<=DB) (h2:B<=MB):DocW B (tag0 DB MB) w DB MB (fun _=>none) (fun _=>none) 0 0 where
 doc:=hd
 dtag:=by unfold tag0;rw [if_pos rfl]
 map:=hm
 mtag:=by unfold tag0;rw [if_neg hne,if_pos rfl]
 els:=fun _ _ h=>by cases h
 non:=fun _ _=>rfl
 low:=fun b t ht=>by
  unfold tag0 at ht
  split at ht
  ·rename_i e;subst e;exact ⟨h1,heap_lt hd⟩
  ·split at ht
   ·rename_i e;subst e;exact ⟨h2,hm.lt⟩
   ·cases ht
 dom:=fun _ _ h=>by cases h
 wf:=fun _ _ h=>by cases h
 few:=by omega
 tnx:=fun b i h=>by
  unfold tag0 at h
  split at h
  ·simp at h
  ·split at h <;> simp at h
def NewR (E:Nat->Addr) (B:Nat) (n:Nd) (e:Ending) (w:World):Prop:=
 ((ckN n 1 0).1≠0/\∃ pb,e=.returned (.tuple #[.pointer none,.iface 143 (.pointer (some ⟨pb,0,none⟩))])/\w.cell? ⟨pb,0,none⟩=some (.int .i64 (ckN n 1 0).2)/\w.cell? ⟨pb,1,none⟩=some (.iface 409 (.pointer (some (E (ckN n 1 0).1)))))\/
 ((ckN n 1 0).1=0/\∃ DB MB tg p,e=.returned (.tuple #[.pointer (some ⟨DB,0,none⟩),.nilIface])/\DocW B tg w DB MB p (extE (fun _=>none) 0 (elN 0 (-1) n)) (szN n) (szN n))
attribute [local go_sem] run_store_func'
theorem New_any (E:Nat->Addr) (n:Nd) (c0 c1 c2:Value) (W:World) (hE:CE E W) (hn:NdC W c0 c1 c2 n) (hs:szN n<=1000000) :
  Calls Tryz.prog 10 #[.agg #[c0,c1,c2]] W fun e w'=>Below W.heap.size W w'/\NewR E W.heap.size n e w':=by
 obtain ⟨sa,oa,na,ka,oa',na',ka',rfl,rfl,rfl⟩:∃ (sa:ByteArray) (oa:Option Addr) (na ka:Nat) (oa':Option Addr) (na' ka':Nat),c0=.string sa/\c1=.slice oa na ka/\c2=.slice oa' na' ka':=by
  obtain ⟨nm,ats,ks⟩:=n
  unfold NdC at hn
  obtain ⟨rfl, -,⟨o,cap,rfl, -⟩,ok,capk,rfl, -⟩:=hn
  exact ⟨_,_,_,_,_,_,_,rfl,rfl,rfl⟩
 have A0:NB W.heap.size (.string sa) (.slice oa na ka) (.slice oa' na' ka') (W.alloc (.cells #[.string sa,.slice oa na ka,.slice oa' na' ka'] 25)):=mbox W #[.string sa,.slice oa na ka,.slice oa' na' ka'] 25
 have b0:=mal W (.cells #[.string sa,.slice oa na ka,.slice oa' na' ka'] 25)
 go_enter Tryz.func10,Tryz.ntmps10
 go_upto_region 1 with fail
 obtain ⟨V,hV⟩:∃ V,W.alloc (.cells #[.string sa,.slice oa na ka,.slice oa' na' ka'] 25)=V:=⟨_,rfl⟩
 obtain ⟨N,hN⟩:∃ N,W.heap.size=N:=⟨_,rfl⟩
 rw [hV] at A0 b0 ⊢
 rw [hN] at A0 ⊢
 have HN:Hid (W.heap.size=N):=hN
 clear hV hN
 have x0:=A0.c0
 have x1:=A0.c1
 have x2:=A0.c2
 have CK:=Check_nd E n _ _ _ V (hE.below b0) (NdC.below b0 n hn)
 by_cases hc:(ckN n 1 0).1=0
 ·have CK1:=CK.mono (R':=fun e w'=>e=.returned .nilIface/\Below V.heap.size V w') (fun e w' h=>by
   refine ⟨?_,h.1⟩
   rcases h.2 with h2 | h2
   ·exact h2.2
   ·exact absurd hc h2.1)
  have HC:Hid ((ckN n 1 0).1=0):=hc
  clear CK hc
  go_upto_region 4 with (go_at_call 33;refine CK1.mono ?_;rintro e w1 ⟨rfl,b1⟩)
  have B1:=mbel b0 b1
  have hsz1:=B1.size
  have hmm:=@run_makeMap Tryz.prog
  go_upto_region 5 with fail
  have U0:∃ U MB,((w1.alloc (.map #[] 0)).alloc (.cells #[.map (some w1.heap.size),.int .i64 0] 92)).alloc (.cells #[.pointer (some ⟨w1.heap.size+1,0,none⟩)] 29)=U/\w1.heap.size=MB/\U.heap[MB+1]? = some (.cells #[.map (some MB),.int .i64 0] 92)/\PMap Tryz.prog 3 U MB (fun _=>none) 0 0/\U.cell? ⟨MB+1+1,0,none⟩=some (.pointer (some ⟨MB+1,0,none⟩))/\U.heap.size=MB+1+1+1/\Below w1.heap.size w1 U:=by
   refine ⟨_,_,rfl,rfl,?_,?_,?_,by simp,?_⟩
   ·have h1:=mbox (w1.alloc (.map #[] 0)) #[.map (some w1.heap.size),.int .i64 0] 92
    have h2:=(mal ((w1.alloc (.map #[] 0)).alloc (.cells #[.map (some w1.heap.size),.int .i64 0] 92)) (.cells #[.pointer (some ⟨w1.heap.size+1,0,none⟩)] 29)).block _ (heap_lt h1)
    simp only [World.size_alloc] at h1 h2
    exact h2.trans h1
   ·exact ((PMap.made w1 Tryz.prog 3).kept (World.grownBy_alloc _ _ none) (by simp)).kept (World.grownBy_alloc _ _ none) (by simp)
   ·have h1:=mnew ((w1.alloc (.map #[] 0)).alloc (.cells #[.map (some w1.heap.size),.int .i64 0] 92)) #[.pointer (some ⟨w1.heap.size+1,0,none⟩)] 29 0 _ rfl
    simp only [World.size_alloc] at h1
    exact h1
   ·exact mbel (mbel (mal _ _) (mal _ _)) (mal _ _)
  obtain ⟨U,MB,hU,hMB,dU,pU,cDU,sU,bU⟩:=U0
  rw [hU,hMB]
  have hMN:N<MB:=by have:=HN.out;have h2:=heap_lt A0;have:=b1.size;omega
  clear hU
  have BU:=mbel B1 bU
  have F0:=mnew U #[.func (.func 34) #[] #[.pointer (some ⟨MB+1+1,0,none⟩),.pointer (some ⟨U.heap.size,0,none⟩)]] 93 0 (.func (.func 34) #[] #[.pointer (some ⟨MB+1+1,0,none⟩),.pointer (some ⟨U.heap.size,0,none⟩)]) rfl
  have bF:=mal U (.cells #[.func (.func 34) #[] #[.pointer (some ⟨MB+1+1,0,none⟩),.pointer (some ⟨U.heap.size,0,none⟩)]] 93)
  have AU:=((mbel b1 bU).block N (heap_lt A0)).trans A0
  have D0:=DocW.made (B:=W.heap.size) dU pU (by omega) (by have:=HN.out;omega) (by have:=HN.out;omega)
  go_upto_region 7 with fail
  obtain ⟨X,hX⟩:∃ X,U.alloc (.cells #[.func (.func 34) #[] #[.pointer (some ⟨MB+1+1,0,none⟩),.pointer (some ⟨U.heap.size,0,none⟩)]] 93)=X:=⟨_,rfl⟩
  obtain ⟨PP,hPQ⟩:∃ PP,MB+1+1+1=PP:=⟨_,rfl⟩
  have hPP:U.heap.size=PP:=sU.trans hPQ
  rw [hPP] at hX F0 bF
  rw [hPQ,hX]
  rw [hX] at F0 bF
  have D1:=D0.turn (w':=X) (fun g t ht=>bF.block g (by rw [<- hPP];exact (D0.low g t ht).2)) bF.size
  have bX:Below U.heap.size U X:=by rw [hPP];exact bF
  have BX:=mbel BU bX
  have AX:=(bX.block N (heap_lt AU)).trans AU
  have cDX:=(bX.cell (cell_lt3 cDU)).trans cDU
  have HP:=put_any W (MB+1+1) PP (MB+1) MB n _ _ _ (-1) _ X _ _ 0 0 hn (lowN_of n 1 0 HC.out) BX cDX F0 D1 (by unfold tag0;rw [if_neg (by omega),if_neg (by omega)]) (by unfold tag0;rw [if_neg (by omega),if_neg (by omega)]) (by decide) (by omega)
  rw [Nat.zero_add] at HP
  have x0:=NB.c0 AX
  have x1:=NB.c1 AX
  have x2:=NB.c2 AX
  have hMB1:W.heap.size<=MB:=by have:=HN.out;omega
  clear hX D0 D1 AU
  go_wp2_with (go_at_call 34;refine HP.mono ?_;rintro e w5 ⟨rfl,k5,tg5,p5, -, -,d5⟩;have cD5:=k5.cell cDX (by omega) (by omega))
  go_ret2
  exact ⟨BX.trans ((k5.below (m:=W.heap.size) (by omega) hMB1 BX.size)),.inr ⟨HC.out,MB+1,MB,tg5,p5,rfl,d5⟩⟩
 ·have CK1:=CK.mono (R':=fun e w'=>(∃ pb,e=.returned (.iface 143 (.pointer (some ⟨pb,0,none⟩)))/\w'.cell? ⟨pb,0,none⟩=some (.int .i64 (ckN n 1 0).2)/\w'.cell? ⟨pb,1,none⟩=some (.iface 409 (.pointer (some (E (ckN n 1 0).1)))))/\Below V.heap.size V w') (fun e w' h=>by
   refine ⟨?_,h.1⟩
   rcases h.2 with h2 | ⟨-,pb, -,h3⟩
   ·exact absurd h2.1 hc
   ·exact ⟨pb,h3⟩)
  clear CK
  go_wp2_with (go_at_call 33;refine CK1.mono ?_;rintro e w1 ⟨⟨pb,rfl,h3,h4⟩,b1⟩)
  go_ret2
  exact ⟨mbel b0 b1,.inl ⟨hc,pb,rfl,h3,h4⟩⟩
end
section
open Go.RowKit
set_option maxHeartbeats 4000000
set_option maxRecDepth 20000
theorem own_len {w:World} {B k n:Nat} {e:TypeId} {v:Value} {xs:List Value} (h:w.ownsRow B e k v n xs):n<=9223372036854775807:=by
 obtain ⟨o,cap, -,h1,h2, -⟩:=row_slice h
 rw [maxLen_eq] at h2
 omega
theorem flat_take_le {α β:Type} (g:α->List β) (l:List α) (k:Nat):((l.take k).flatMap g).length<=(l.flatMap g).length:=by
 have h:=congrArg (fun x=>(List.flatMap g x).length) (List.take_append_drop k l)
 simp only [List.flatMap_append,List.length_append] at h
 omega
theorem walk_from {B:Nat} {tg:Tags} {Wd:World} {DB MB:Nat} {p:Int->Option Nat} {M:Dm} {nx c:Nat} (hd:DocW B tg Wd DB MB p M nx c) (lb:Array Value) (I:List (Int × Int)->World->Prop) (hI:∀ done W,I done W->(∀ b t,tg b=some t->W.heap[b]? = Wd.heap[b]?)/\Wd.heap.size<=W.heap.size)
  (hcall:∀ done W i d,I done W->done.length<1000000->Calls Tryz.prog 75 (#[.int .i64 i,.int .i64 d]++lb) W fun e w'=>e=.returned (.tuple #[])/\I (done++[(i,d)]) w') :
  ∀ (f:Nat) (n d:Int) (done:List (Int × Int)) (W:World),Dp M f n->Wf64 n->0<=d->d+f<=1000000->done.length+(pre M f n d).length<=1000000->I done W->
  Calls Tryz.prog 74 #[.pointer (some ⟨DB,0,none⟩),.int .i64 n,.int .i64 d,.func (.func 75) #[] lb] W fun e w'=>e=.returned (.tuple #[])/\I (done++pre M f n d) w'
 | 0,_,_,_,_,hp,_,_,_,_,_=>hp.elim
 | f+1,n,d,done,W,hp,hn,hd0,hdf,hlen,hi=>by
  have IH:=walk_from hd lb I hI hcall f
  have hs:=hI done W hi
  have hw:=hd.turn hs.1 hs.2
  have d0:=hw.d0
  cases hm:M n with
  | none=>
   have hpn:=hd.non n hm
   have hpre:pre M (f+1) n d=[]:=by rw [pre,hm]
   rw [hpre,List.append_nil]
   go_enter Tryz.func74,Tryz.ntmps74
   go_wp2_with (at_lookup;refine look_no _ rfl _ _ 90 rfl Tryz.underlying3 Tryz.underlying90 (zeroEl _) rfl hw.map n rfl hn hpn ?_)
   refine bodyPost_ret (v:=.tuple #[]) (by simp [results,Tryz.results74]) rfl ⟨rfl,hi⟩
  | some e=>
   have hpre:pre M (f+1) n d=(n,d) :: e.kids.flatMap (fun k=>pre M f k (d+1)):=by rw [pre,hm]
   rw [hpre] at hlen ⊢
   rw [List.length_cons] at hlen
   obtain ⟨b,va,vk,hpn,he⟩:=hd.els n e hm
   have he1:=he.turn (tg':=tg) (w':=W) fun g t ht _=>⟨ht,hs.1 g t ht⟩
   have HCL:=hcall done W n d hi (by omega)
   obtain ⟨ov,kv,hvk⟩:=own_slice he.kids
   have HKD:Hid (∀ k ∈ e.kids,Dp M f k/\Wf64 k):=(fun k hk=>⟨hp e hm k hk,(hd.wf n e hm).2 k hk⟩:∀ k ∈ e.kids,Dp M f k/\Wf64 k)
   have HHI:Hid (∀ done W,I done W->(∀ b t,tg b=some t->W.heap[b]? = Wd.heap[b]?)/\Wd.heap.size<=W.heap.size):=hI
   have HIH:Hid (∀ (n d:Int) (done:List (Int × Int)) (W:World),Dp M f n->Wf64 n->0<=d->d+f<=1000000->done.length+(pre M f n d).length<=1000000->I done W->Calls Tryz.prog 74 #[.pointer (some ⟨DB,0,none⟩),.int .i64 n,.int .i64 d,.func (.func 75) #[] lb] W fun e w'=>e=.returned (.tuple #[])/\I (done++pre M f n d) w'):=IH
   have hkl:e.kids.length<=9223372036854775807:=own_len he.kids
   clear hI IH hcall hi hp
   go_enter Tryz.func74,Tryz.ntmps74
   go_upto_region 3 with (first | (at_lookup;refine look_yes _ rfl _ _ 90 rfl Tryz.underlying3 Tryz.underlying90 (zeroEl _) rfl hw.map n rfl hn b hpn ?_) | (go_at_call 75;refine HCL.mono ?_;rintro r w1 ⟨rfl,hi1⟩))
   subst hvk
   have x3:=World.cell?_of_block ((HHI.out _ _ hi1).1 b _ he.tag) |>.trans he.c3
   have hd1:d<=999999:=by omega
   have HHE:Hid (ElW B tg Wd n b e va (.slice ov e.kids.length kv)):=he
   have HI1:Hid (I (done++[(n,d)]) w1):=hi1
   clear he he1 hi1 hw d0 hs HCL
   go_wp2_with fail
   go_loopw [32] (fun y wr=>∃ k:Nat,k<=e.kids.length/\y=.int .i64 k/\I (done++((n,d) :: (e.kids.take k).flatMap (fun i=>pre M f i (d+1)))) wr) (fun y _=>e.kids.length - (intOf y).toNat)
   case atStart=>exact ⟨0,Nat.zero_le _,rfl,HI1.out⟩
   case round=>
    obtain ⟨k,hk,rfl,hi2⟩:=hrel
    by_cases hlt:k<e.kids.length
    ·have hlt':(k:Int)<(e.kids.length:Int):=by omega
     obtain ⟨kid,hx, -⟩:=drop_at hlt
     obtain ⟨g,hg,hc⟩:=row_get HHE.out.kids k _ (intsV_get hx)
     have hov:ov=some ⟨g,0,none⟩:=by
      obtain ⟨o',cap',h1, -, -, -,h2⟩:=row_slice HHE.out.kids
      cases h1
      exact h2 g hg
     subst hov
     have hcw:=World.cell?_of_block ((HHI.out _ _ hi2).1 g _ (HHE.out.ktag g hg)) |>.trans hc
     have hkd:=HKD.out kid (List.mem_of_getElem? hx)
     have htk:(e.kids.take (k+1)).flatMap (fun i=>pre M f i (d+1))=(e.kids.take k).flatMap (fun i=>pre M f i (d+1))++pre M f kid (d+1):=by
      rw [List.take_add_one,hx]
      simp
     have hle:=flat_take_le (fun i=>pre M f i (d+1)) e.kids (k+1)
     rw [htk,List.length_append] at hle
     have HC:=HIH.out kid (d+1) _ wr hkd.1 hkd.2 (by omega) (by omega) (by rw [List.length_append,List.length_cons];omega) hi2
     rw [List.append_assoc,List.cons_append,<- htk] at HC
     clear hi2 hc hg hx htk hle
     go_wp2_with (go_at_call 74;refine HC.mono ?_;rintro r w2 ⟨rfl,hi3⟩)
     go_roundw
     case rel=>exact ⟨k+1,by omega,by go_num,hi3⟩
     case measure=>simp [intOf];omega
    ·obtain rfl:k=e.kids.length:=by omega
     have hge:¬ (e.kids.length:Int)<(e.kids.length:Int):=by omega
     rw [List.take_length] at hi2
     go_wp2_with fail
     refine bodyPost_end (results_none rfl _ _ _) rfl ⟨rfl,hi2⟩
end
section
open Go.RowKit
set_option maxHeartbeats 2000000
def FromI (W:World) (done:List (Int × Int)) (Wc:World):Prop:=Below W.heap.size W Wc/\∃ o k,Wc.heap[W.heap.size]? = some (.cells #[.slice o done.length k] 72)/\Wc.ownsRow (W.heap.size+1) 3 1 (.slice o done.length k) done.length (intsV (done.map Prod.fst))
theorem gather (W:World) (done:List (Int × Int)) (Wc:World) (i d:Int) (h:FromI W done Wc) (hl:done.length<1000000) :
  Calls Tryz.prog 75 (#[.int .i64 i,.int .i64 d]++#[.pointer (some ⟨W.heap.size,0,none⟩)]) Wc fun e w'=>e=.returned (.tuple #[])/\FromI W (done++[(i,d)]) w':=by
 obtain ⟨hb,o,k,hc,ho⟩:=h
 obtain ⟨i0,hi0,hz0,hz1,hz2⟩:=info_parts intInfo
 have c0:=bcell hc 0 _ rfl
 have hlt:=heap_lt hc
 have b1:=mal Wc (.cells #[.int .i64 i] 3)
 have H0:=mbox Wc #[.int .i64 i] 3
 have HB:Hid (Below W.heap.size W Wc):=hb
 clear hb
 obtain ⟨PL,hPL⟩:∃ PL,W.heap.size=PL:=⟨_,rfl⟩
 rw [hPL] at hc ho c0 hlt ⊢
 show Calls Tryz.prog 75 #[.int .i64 i,.int .i64 d,.pointer (some ⟨PL,0,none⟩)] Wc _
 go_enter Tryz.func75,Tryz.ntmps75
 go_wp2_with (at_builtin;refine wpList_append_own_at _ rfl _ _ 72 rfl (PL+1) 3 i0 (.int .i64 0) 1 8 Tryz.underlying72 hi0 hz0 hz1 hz2 rfl (by decide) _ _ _ rfl (World.ownsRow.alloc ho _) ⟨Wc.heap.size,0,none⟩ 1 1 [.int .i64 i] rfl rfl (World.news_of_block H0) (fun u hu=>by simp at hu;rcases hu with rfl;rfl) (by rw [maxLen_eq];omega) (by omega) (by simp;omega) ?_;intro v7 w7 ow7 gr7 _ loc7;obtain ⟨o7,k7,rfl⟩:=own_slice ow7;have e7:=(gr7.block PL (Nat.lt_of_lt_of_le hlt b1.size) (own_ne ho (Nat.lt_succ_self PL))).trans ((b1.block PL hlt).trans hc);have c7:=bcell e7 0 _ rfl;have f7:=froz_at e7)
 refine bodyPost_end (results_none rfl _ _ _) rfl ⟨rfl,?_,o7,k7,?_,?_⟩
 ·have h7:Below PL W w7:=by
   have hb:=HB.out
   rw [hPL] at hb
   refine ⟨gr7.os.trans (b1.os.trans hb.os),gr7.tape.trans (b1.tape.trans hb.tape),gr7.output.trans (b1.output.trans hb.output),Nat.le_trans hb.size (Nat.le_trans b1.size gr7.size),fun j hj=>?_⟩
   exact (gr7.block j (by have:=b1.size;omega) (own_ne ho (by omega))).trans ((b1.block j (by omega)).trans (hb.block j hj))
  rw [hPL]
  exact h7.setCell Nat.le.refl _
 ·rw [hPL,heap_setCell_same w7 PL 0 _ _ _ e7]
  simp
 ·rw [hPL]
  have:=own_same (w':=w7.setCell ⟨PL,0,none⟩ (.slice o7 (done.length+1) k7)) ow7 fun g hg=>Below.heap_setCell _ _ _ g (fun e1=>by have:=(ow7.lt g hg).1;simp only at e1;omega)
  rw [List.map_append,intsV_app,List.length_append]
  exact this
def fromL (M:Dm) (f:Nat) (n:Int):List Int:=(pre M f n 1).map Prod.fst
theorem from_doc {B:Nat} {tg:Tags} {W:World} {DB MB:Nat} {p:Int->Option Nat} {M:Dm} {nx c:Nat} (hd:DocW B tg W DB MB p M nx c) (f:Nat) (n:Int) (hf:f<=900000) (hp:Dp M f n) (hn:Wf64 n) (hl:(fromL M f n).length<=1000000) :
  Calls Tryz.prog 41 #[.pointer (some ⟨DB,0,none⟩),.int .i64 n] W fun e w'=>∃ o k,e=.returned (.slice o (fromL M f n).length k)/\Below W.heap.size W w'/\w'.ownsRow (W.heap.size+1) 3 1 (.slice o (fromL M f n).length k) (fromL M f n).length (intsV (fromL M f n)):=by
 have HW:=walk_from hd #[.pointer (some ⟨W.heap.size,0,none⟩)] (FromI W) (fun done Wc h=>⟨fun b t ht=>h.1.block b (hd.low b t ht).2,h.1.size⟩) (fun done Wc i d h hl=>gather W done Wc i d h hl) f n 1 [] (W.alloc (.cells #[.slice none 0 0] 72)) hp hn (by decide) (by omega) (by rw [List.length_nil];unfold fromL at hl;rw [List.length_map] at hl;omega) ⟨mal W _,none,0,mbox W _ _,World.ownsRow_nil _ _ _ _⟩
 rw [List.nil_append] at HW
 have hlm:(fromL M f n).length=(pre M f n 1).length:=List.length_map ..
 go_enter Tryz.func41,Tryz.ntmps41
 go_wp2_with (go_at_call 74;refine HW.mono ?_;rintro e w1 ⟨rfl,h1⟩;obtain ⟨hb1,o,k,hc1,ho1⟩:=h1;have c1:=bcell hc1 0 _ rfl)
 go_ret
 exact ⟨o,k,by rw [hlm];rfl,hb1,by rw [hlm];exact ho1⟩
end
section
open Go
def kBox:Bs:=[98,111,120]
def kPoly:Bs:=[112,111,108,121]
def kGroup:Bs:=[103,114,111,117,112]
def kUse:Bs:=[117,115,101]
def kNo:Bs:=[110,111]
def kNone:Bs:=[110,111,110,101]
def kMove:Bs:=[109,111,118,101]
def kPoints:Bs:=[112,111,105,110,116,115]
def kOf:Bs:=[111,102]
def kId:Bs:=[105,100]
structure Pc where
  nd:Int
  pts:List Qt
  fill:Bs
  rule:Bs
  lv:Int
structure Ft where
  code:Nat
  pl:Int
def nmD (M:Dm) (n:Int):Bs:=match M n with | none=>[] | some e=>e.name
def valM (M:Dm) (n:Int) (nm:Bs):Bs:=(atM M n nm).getD []
def moveM (M:Dm) (n:Int) (m:Mv):Except Nat Mv:=
  if (readR ⟨(valM M n kMove).toArray⟩).2≠0 then .error (readR ⟨(valM M n kMove).toArray⟩).2 else if (thenS (readR ⟨(valM M n kMove).toArray⟩).1 m).2=0 then .ok (thenS (readR ⟨(valM M n kMove).toArray⟩).1 m).1 else .error 2
def fracM (M:Dm) (n:Int) (nm:Bs):R3:=match atM M n nm with | none=>⟨0,1,0⟩ | some s=>rd s
def okB (l:List Qt):Bool:=decide (l.length<=30) && l.all (fun y=>errP y==0)
def boxOfM (x y w h:R3):Except Nat (List Qt):=
  if (add x.n x.d w.n w.d).c=0/\(add y.n y.d h.n h.d).c=0/\okB (boxL x.n x.d y.n y.d (add x.n x.d w.n w.d).n (add x.n x.d w.n w.d).d (add y.n y.d h.n h.d).n (add y.n y.d h.n h.d).d)=true
  then .ok (boxL x.n x.d y.n y.d (add x.n x.d w.n w.d).n (add x.n x.d w.n w.d).d (add y.n y.d h.n h.d).n (add y.n y.d h.n h.d).d) else .error 2
def boxM (M:Dm) (n:Int):Except Nat (List Qt):=
  if (fracM M n [120]).c≠0 then .error (fracM M n [120]).c else if (fracM M n [121]).c≠0 then .error (fracM M n [121]).c else if (fracM M n [119]).c≠0 then .error (fracM M n [119]).c else if (fracM M n [104]).c≠0 then .error (fracM M n [104]).c
  else boxOfM (fracM M n [120]) (fracM M n [121]) (fracM M n [119]) (fracM M n [104])
def ptM (w:Bs):Option Qt:=match behind 44 w with
  | none=>none
  | some b=>if (rd (ahead 44 w)).c=0/\(rd b).c=0 then some ⟨(rd (ahead 44 w)).n,(rd (ahead 44 w)).d,(rd b).n,(rd b).d⟩ else none
def shapeM (s:Bs):Except Nat (List Qt):=
  if s=[] then .ok [] else match (words ⟨s.toArray⟩).mapM (fun w=>ptM w.toList) with
  | none=>.error 1
  | some l=>if okB l then .ok l else .error 2
def polyM (M:Dm) (n:Int):Except Nat (List Qt):=shapeM (valM M n kPoints)
def goP (m:Mv) (a:Qt):Qt:=⟨(movedF 0 m ⟨⟨a.xn,a.xd⟩,⟨a.yn,a.yd⟩⟩).1.x.n,(movedF 0 m ⟨⟨a.xn,a.xd⟩,⟨a.yn,a.yd⟩⟩).1.x.d,(movedF 0 m ⟨⟨a.xn,a.xd⟩,⟨a.yn,a.yd⟩⟩).1.y.n,(movedF 0 m ⟨⟨a.xn,a.xd⟩,⟨a.yn,a.yd⟩⟩).1.y.d⟩
def goOk (m:Mv) (a:Qt):Bool:=decide ((movedF 0 m ⟨⟨a.xn,a.xd⟩,⟨a.yn,a.yd⟩⟩).2=0) && (bigP (goP m a)==0)
def goM (m:Mv) (l:List Qt):Option (List Qt):=if l.all (goOk m) then some (l.map (goP m)) else none
def lvM (s:Bs):Int:=match Lib.atoiAll s with
  | .ok v=>if 0<=v/\v<=999/\Lib.itoa v=s then v else 0
  | _=>0
def kindC (c:Nat):Nat:=if c=2 then 2 else 10
def allM (M:Dm):List Int:=fromL M 11 0
def ledM (M:Dm) (n:Int):Option Int:=match atM M n kOf with
  | none=>none
  | some v=>(allM M).find? (fun k=>atM M k kId==some v)
def pieceM (M:Dm) (l:List Rl) (n:Int) (m:Mv) (x:Except Nat (List Qt)) (st:Nat × List Pc):Except Ft (Nat × List Pc):=match x with
  | .error c=>.error ⟨kindC c,n⟩
  | .ok q=>match goM m q with
    | none=>.error ⟨2,n⟩
    | some q'=>if ofM M l kFill n=kNone then .ok st else .ok (st.1,st.2++[⟨n,q',ofM M l kFill n,ofM M l kRule n,lvM (ofM M l kLevel n)⟩])
def isFour (s:Bs):Bool:=s==kBox || s==kPoly || s==kGroup || s==kUse
def shownE (M:Dm) (l:List Rl) (n:Int):Bool:=isFour (nmD M n) && !(ofM M l kShow n==kNo)
def comeM (M:Dm) (l:List Rl):Nat->Int->List Int->Mv->Nat × List Pc->Except Ft (Nat × List Pc)
  | 0,n,path,_,_=>if n ∈ path then .error ⟨9,n⟩ else .error ⟨7,n⟩
  | f+1,n,path,m,st=>
    if n ∈ path then .error ⟨9,n⟩ else if 100<=st.1 then .error ⟨7,n⟩ else
    if shownE M l n=false then .ok (st.1+1,st.2) else
    match moveM M n m with
    | .error c=>.error ⟨kindC c,n⟩
    | .ok m'=>
      if nmD M n=kBox then pieceM M l n m' (boxM M n) (st.1+1,st.2) else
      if nmD M n=kPoly then pieceM M l n m' (polyM M n) (st.1+1,st.2) else
      if nmD M n=kGroup then (kidsM M n).foldlM (fun s k=>comeM M l f k (n :: path) m' s) (st.1+1,st.2) else
      match ledM M n with
      | none=>.error ⟨10,n⟩
      | some k=>comeM M l f k (n :: path) m' (st.1+1,st.2)
where kidsM (M:Dm) (n:Int):List Int:=match M n with | none=>[] | some e=>e.kids
def sortM (l:List Pc):List Pc:=(List.range 1000).flatMap (fun (k:Nat)=>l.filter (fun x=>x.lv==(k:Int)))
def piecesM (M:Dm) (l:List Rl):Except Ft (List Pc):=match comeM M l 101 0 [-1] .one (0,[]) with
  | .error e=>.error e
  | .ok st=>.ok (sortM st.2)
end
section
section
variable {Ma Mb:Dm} {r:Int->Nat}
def AlkE (Ma Mb:Dm):Prop:=∀ i e,Mb i=some e->∃ ea,Ma i=some ea/\ea.name=e.name/\ea.ats=e.ats/\ea.parent=e.parent
theorem AlkE.at_ (h:AlkE Ma Mb) {i:Int} {e:Elm} (he:Mb i=some e) (nm:Bs):atM Ma i nm=atM Mb i nm:=by
 obtain ⟨ea,h1, -,h3, -⟩:=h i e he
 unfold atM
 rw [h1,he]
 show atOf ea.ats nm=atOf e.ats nm
 rw [h3]
theorem AlkE.par (h:AlkE Ma Mb) {i:Int} {e:Elm} (he:Mb i=some e):parM Ma i=parM Mb i:=by
 obtain ⟨ea,h1, -, -,h4⟩:=h i e he
 unfold parM
 rw [h1,he]
 exact h4
theorem toldM_nil (M:Dm) (nm:Bs) (n:Int):toldM M [] nm n=atM M n nm:=by
 unfold toldM
 cases atM M n nm with
 | none=>rfl
 | some v=>rfl
theorem AlkE.ofF (h:AlkE Ma Mb) (hw:Wd Mb r) (nm:Bs):∀ (f:Nat) (i:Int),(i<0\/∃ e,Mb i=some e)->Go.Proofs.YtgphclgmmocdhaaGreatDoor.ofF Ma [] nm f i=Go.Proofs.YtgphclgmmocdhaaGreatDoor.ofF Mb [] nm f i
 | 0,_,_=>rfl
 | f+1,i,hi=>by
  unfold Go.Proofs.YtgphclgmmocdhaaGreatDoor.ofF
  by_cases h0:i<0
  ·rw [if_pos h0,if_pos h0]
  ·rw [if_neg h0,if_neg h0]
   obtain ⟨e,he⟩:=hi.resolve_left h0
   rw [toldM_nil,toldM_nil,h.at_ he,h.par he]
   cases atM Mb i nm with
   | some v=>rfl
   | none=>
    dsimp only
    split
    ·refine h.ofF hw nm f _ ?_
     by_cases hz:i=0
     ·subst hz
      exact .inl (by rw [hw.root_par];omega)
     ·obtain ⟨q,hq, -⟩:=hw.up_par he hz
      exact .inr ⟨q,hq⟩
    ·rfl
theorem AlkE.of_ (h:AlkE Ma Mb) (hw:Wd Mb r) (nm:Bs) {i:Int} {e:Elm} (he:Mb i=some e):ofM Ma [] nm i=ofM Mb [] nm i:=by
 obtain ⟨ea,h1, -⟩:=h i e he
 unfold ofM
 rw [h1,he,h.ofF hw nm 12 i (.inr ⟨e,he⟩)]
 rfl
theorem AlkE.name (h:AlkE Ma Mb) {i:Int} {e:Elm} (he:Mb i=some e):nmD Ma i=nmD Mb i:=by
 obtain ⟨ea,h1,h2, -⟩:=h i e he
 unfold nmD
 rw [h1,he]
 exact h2
theorem AlkE.val (h:AlkE Ma Mb) {i:Int} {e:Elm} (he:Mb i=some e) (nm:Bs):valM Ma i nm=valM Mb i nm:=by
 unfold valM
 rw [h.at_ he]
theorem AlkE.move (h:AlkE Ma Mb) {i:Int} {e:Elm} (he:Mb i=some e) (m:Mv):moveM Ma i m=moveM Mb i m:=by
 unfold moveM
 rw [h.val he]
theorem AlkE.frac (h:AlkE Ma Mb) {i:Int} {e:Elm} (he:Mb i=some e) (nm:Bs):fracM Ma i nm=fracM Mb i nm:=by
 unfold fracM
 rw [h.at_ he]
theorem AlkE.box (h:AlkE Ma Mb) {i:Int} {e:Elm} (he:Mb i=some e):boxM Ma i=boxM Mb i:=by
 unfold boxM
 rw [h.frac he,h.frac he,h.frac he,h.frac he]
theorem AlkE.poly (h:AlkE Ma Mb) {i:Int} {e:Elm} (he:Mb i=some e):polyM Ma i=polyM Mb i:=by
 unfold polyM
 rw [h.val he]
theorem AlkE.shown (h:AlkE Ma Mb) (hw:Wd Mb r) {i:Int} {e:Elm} (he:Mb i=some e):shownE Ma [] i=shownE Mb [] i:=by
 unfold shownE
 rw [h.name he,h.of_ hw kShow he]
end
end
section
structure MvS (x y:Int) (m m':Mv):Prop where
 ok:m.ok
 ok':m'.ok
 a:m'.a.val=m.a.val
 b:m'.b.val=m.b.val
 c:m'.c.val=m.c.val
 d:m'.d.val=m.d.val
 e:m'.e.val=m.e.val+x
 f:m'.f.val=m.f.val+y
theorem whole_val (n:Int):(Fr.whole n).val=n:=by
 unfold Fr.val Fr.whole
 simp only
 grind
theorem MvS.start {x y:Int} (hx:x.natAbs<=1073741824) (hy:y.natAbs<=1073741824):MvS x y .one (shM x y) where
 ok:=one_ok
 ok':=⟨whole_ok (by decide),whole_ok (by decide),whole_ok (by decide),whole_ok (by decide),whole_ok hx,whole_ok hy⟩
 a:=rfl
 b:=rfl
 c:=rfl
 d:=rfl
 e:=by
  show (Fr.whole x).val=(Fr.whole 0).val+x
  rw [whole_val,whole_val]
  grind
 f:=by
  show (Fr.whole y).val=(Fr.whole 0).val+y
  rw [whole_val,whole_val]
  grind
theorem MvS.then_ {x y:Int} {o m m':Mv} (h:MvS x y m m') (ho:o.ok) (h1:(thenS o m).2=0) (h2:(thenS o m').2=0):MvS x y (thenS o m).1 (thenS o m').1:=by
 obtain ⟨-,k⟩:=then_step ho h.ok
 obtain ⟨-,k'⟩:=then_step ho h.ok'
 obtain ⟨o1,a1,b1,c1,d1,e1,f1⟩:=k h1
 obtain ⟨o2,a2,b2,c2,d2,e2,f2⟩:=k' h2
 refine ⟨o1,o2,?_,?_,?_,?_,?_,?_⟩
 ·rw [a1,a2,h.a,h.c]
 ·rw [b1,b2,h.b,h.d]
 ·rw [c1,c2,h.a,h.c]
 ·rw [d1,d2,h.b,h.d]
 ·rw [e1,e2,h.a,h.c,h.e];grind
 ·rw [f1,f2,h.b,h.d,h.f];grind
theorem add_val {a b:Fr} {x:Int} (ha:a.ok) (hb:b.ok) (hx:x.natAbs<=1073741824) (h:b.val=a.val+x):add a.n a.d x 1=⟨b.n,b.d,0⟩:=by
 have e1:(a.d:Rat)≠0:=by simpa using Fr.ok_pos ha
 have e2:(b.d:Rat)≠0:=by simpa using Fr.ok_pos hb
 refine add_some.2 ⟨ha,whole_ok hx,hb,?_⟩
 unfold Fr.val at h
 have h3:(b.n:Rat) * (a.d * 1)=(a.n * 1+x * a.d) * b.d:=by grind
 exact_mod_cast h3
abbrev ptQ (a:Qt):Pt:=⟨⟨a.xn,a.xd⟩,⟨a.yn,a.yd⟩⟩
theorem goP_of {m:Mv} {a:Qt} {p:Pt} {c:Nat} (h:movedF 0 m (ptQ a)=(p,c)):goP m a=⟨p.x.n,p.x.d,p.y.n,p.y.d⟩:=by
 unfold goP
 rw [show movedF 0 m ⟨⟨a.xn,a.xd⟩,⟨a.yn,a.yd⟩⟩=(p,c) from h]
theorem go_shift {x y:Int} {m m':Mv} (h:MvS x y m m') (hx:x.natAbs<=1073741824) (hy:y.natAbs<=1073741824) {a:Qt} (ha:(ptQ a).ok) (h1:goOk m a=true) (h2:goOk m' a=true):goOk (shM x y) (goP m a)=true/\goP (shM x y) (goP m a)=goP m' a:=by
 obtain ⟨⟨p,cp⟩,hp⟩:∃ z,movedF 0 m (ptQ a)=z:=⟨_,rfl⟩
 obtain ⟨⟨q,cq⟩,hq⟩:∃ z,movedF 0 m' (ptQ a)=z:=⟨_,rfl⟩
 have g1:=goP_of hp
 have g2:=goP_of hq
 have k1:cp=0:=by
  unfold goOk at h1
  rw [Bool.and_eq_true,decide_eq_true_iff] at h1
  have:=h1.1
  rw [show movedF 0 m ⟨⟨a.xn,a.xd⟩,⟨a.yn,a.yd⟩⟩=(p,cp) from hp] at this
  exact this
 have k2:cq=0/\(bigP (goP m' a)==0)=true:=by
  unfold goOk at h2
  rw [Bool.and_eq_true,decide_eq_true_iff] at h2
  have:=h2.1
  rw [show movedF 0 m' ⟨⟨a.xn,a.xd⟩,⟨a.yn,a.yd⟩⟩=(q,cq) from hq] at this
  exact ⟨this,h2.2⟩
 obtain ⟨k2,k2'⟩:=k2
 obtain ⟨-,m1⟩:=moved_step (c:=0) (.inl rfl) h.ok ha
 obtain ⟨-,m2⟩:=moved_step (c:=0) (.inl rfl) h.ok' ha
 rw [hp] at m1
 rw [hq] at m2
 obtain ⟨-,o1,x1,y1⟩:=m1 k1
 obtain ⟨-,o2,x2,y2⟩:=m2 k2
 simp only at o1 x1 y1 o2 x2 y2
 clear m1 m2 h1 h2
 have hvx:q.x.val=p.x.val+x:=by rw [x2,x1,h.a,h.c,h.e];grind
 have hvy:q.y.val=p.y.val+y:=by rw [y2,y1,h.b,h.d,h.f];grind
 have ax:=add_val o1.1 o2.1 hx hvx
 have ay:=add_val o1.2 o2.2 hy hvy
 have hm:movedF 0 (shM x y) p=(q,0):=by
  obtain ⟨⟨pxn,pxd⟩,⟨pyn,pyd⟩⟩:=p
  obtain ⟨⟨qxn,qxd⟩,⟨qyn,qyd⟩⟩:=q
  unfold movedF
  rw [turned_sh o1.1 o1.2]
  simp only [shM]
  rw [doF_some (x:=⟨pxn,pxd⟩) (y:=.whole x) (z:=⟨qxn,qxd⟩) ax]
  simp only
  rw [doF_some (x:=⟨pyn,pyd⟩) (y:=.whole y) (z:=⟨qyn,qyd⟩) ay]
 have hgp:goP (shM x y) (goP m a)=goP m' a:=by
  rw [g2,g1]
  exact goP_of (m:=shM x y) (a:=⟨p.x.n,p.x.d,p.y.n,p.y.d⟩) (p:=q) (c:=0) hm
 refine ⟨?_,hgp⟩
 unfold goOk
 rw [hgp,k2',Bool.and_true,decide_eq_true_iff,g1]
 rw [show movedF 0 (shM x y) ⟨⟨p.x.n,p.x.d⟩,⟨p.y.n,p.y.d⟩⟩=(q,0) from hm]
def shPc (x y:Int) (p:Pc):Pc:=⟨p.nd,p.pts.map (goP (shM x y)),p.fill,p.rule,p.lv⟩
theorem goM_shift {x y:Int} {m m':Mv} (h:MvS x y m m') (hx:x.natAbs<=1073741824) (hy:y.natAbs<=1073741824) {l q q':List Qt} (hl:∀ a ∈ l,(ptQ a).ok) (h1:goM m l=some q) (h2:goM m' l=some q'):goM (shM x y) q=some q'/\q'=q.map (goP (shM x y)):=by
 unfold goM at h1 h2
 split at h1
 ·next k1=>
  split at h2
  ·next k2=>
   cases h1
   cases h2
   rw [List.all_eq_true] at k1 k2
   have K:∀ a ∈ l,goOk (shM x y) (goP m a)=true/\goP (shM x y) (goP m a)=goP m' a:=fun a ha=>go_shift h hx hy (hl a ha) (k1 a ha) (k2 a ha)
   have hmm:l.map (goP m')=(l.map (goP m)).map (goP (shM x y)):=by
    rw [List.map_map]
    exact List.map_congr_left fun a ha=>(K a ha).2.symm
   refine ⟨?_,hmm⟩
   unfold goM
   rw [if_pos,<- hmm]
   rw [List.all_eq_true]
   intro b hb
   obtain ⟨a,ha,rfl⟩:=List.mem_map.1 hb
   exact (K a ha).1
  ·cases h2
 ·cases h1
def ShfR (x y:Int) (ps ps':List Pc) (s s':Nat × List Pc):Prop:=∃ q,s.2=ps++q/\s'.2=ps'++q.map (shPc x y)/\∀ p ∈ q,goM (shM x y) p.pts=some (p.pts.map (goP (shM x y)))
theorem ShfR.none {x y:Int} {ps ps':List Pc} {c c':Nat}:ShfR x y ps ps' (c,ps) (c',ps'):=⟨[],by simp,by simp,by simp⟩
theorem ShfR.trans {x y:Int} {ps ps':List Pc} {s s' t t':Nat × List Pc} (h:ShfR x y ps ps' s s') (h':ShfR x y s.2 s'.2 t t'):ShfR x y ps ps' t t':=by
 obtain ⟨q,h1,h2,h3⟩:=h
 obtain ⟨q',k1,k2,k3⟩:=h'
 refine ⟨q++q',by rw [k1,h1,List.append_assoc],by rw [k2,h2,List.append_assoc,List.map_append],fun p hp=>?_⟩
 rcases List.mem_append.1 hp with hp | hp
 ·exact h3 p hp
 ·exact k3 p hp
theorem piece_shift {M:Dm} {x y:Int} {m m':Mv} (h:MvS x y m m') (hx:x.natAbs<=1073741824) (hy:y.natAbs<=1073741824) {n:Int} {r:Except Nat (List Qt)} (hr:∀ l,r=.ok l->∀ a ∈ l,(ptQ a).ok) {c c':Nat} {ps ps':List Pc} {s s':Nat × List Pc}
  (h1:pieceM M [] n m r (c,ps)=.ok s) (h2:pieceM M [] n m' r (c',ps')=.ok s'):ShfR x y ps ps' s s':=by
 unfold pieceM at h1 h2
 cases r with
 | error k=>cases h1
 | ok l=>
  simp only at h1 h2
  cases g1:goM m l with
  | none=>rw [g1] at h1;cases h1
  | some q=>
   cases g2:goM m' l with
   | none=>rw [g2] at h2;cases h2
   | some q'=>
    rw [g1] at h1
    rw [g2] at h2
    simp only at h1 h2
    obtain ⟨k1,k2⟩:=goM_shift h hx hy (hr l rfl) g1 g2
    by_cases hf:ofM M [] kFill n=kNone
    ·rw [if_pos hf] at h1 h2
     cases h1
     cases h2
     exact .none
    ·rw [if_neg hf] at h1 h2
     cases h1
     cases h2
     refine ⟨[⟨n,q,ofM M [] kFill n,ofM M [] kRule n,lvM (ofM M [] kLevel n)⟩],rfl,?_,fun p hp=>?_⟩
     ·simp only [List.map_cons,List.map_nil,shPc,k2]
     ·rw [List.mem_singleton.1 hp]
      simp only
      rw [k1,k2]
theorem fold_shift {x y:Int} {A B:Nat × List Pc->Int->Except Ft (Nat × List Pc)}:∀ (l:List Int) (a b s s':Nat × List Pc),
  (∀ k ∈ l,∀ a b s s',A a k=.ok s->B b k=.ok s'->ShfR x y a.2 b.2 s s')->l.foldlM A a=.ok s->l.foldlM B b=.ok s'->ShfR x y a.2 b.2 s s'
 | [],a,b,s,s',_,h1,h2=>by
  cases h1
  cases h2
  exact .none (c:=a.1) (c':=b.1)
 | k :: l,a,b,s,s',H,h1,h2=>by
  rw [List.foldlM_cons] at h1 h2
  cases hA:A a k with
  | error e=>rw [hA] at h1;cases h1
  | ok t=>
   cases hB:B b k with
   | error e=>rw [hB] at h2;cases h2
   | ok t'=>
    rw [hA] at h1
    rw [hB] at h2
    exact (H k (by simp) a b t t' hA hB).trans (fold_shift l t t' s s' (fun k hk=>H k (by simp [hk])) h1 h2)
theorem come_shift {M:Dm} {x y:Int} (hx:x.natAbs<=1073741824) (hy:y.natAbs<=1073741824) (hrd:∀ s:ByteArray,(readR s).2=0->(readR s).1.ok) (hbx:∀ n l,boxM M n=.ok l->∀ a ∈ l,(ptQ a).ok) (hpl:∀ n l,polyM M n=.ok l->∀ a ∈ l,(ptQ a).ok) :
  ∀ (f f':Nat) (n:Int) (path path':List Int) (m m':Mv) (c c':Nat) (ps ps':List Pc) (s s':Nat × List Pc),MvS x y m m'->comeM M [] f n path m (c,ps)=.ok s->comeM M [] f' n path' m' (c',ps')=.ok s'->ShfR x y ps ps' s s'
 | 0,_,n,path,_,_,_,_,_,_,_,_,_,_,h1,_=>by
  rw [comeM] at h1
  split at h1 <;> cases h1
 | _+1,0,n,_,path',_,_,_,_,_,_,_,_,_,_,h2=>by
  rw [comeM] at h2
  split at h2 <;> cases h2
 | f+1,f'+1,n,path,path',m,m',c,c',ps,ps',s,s',hm,h1,h2=>by
  rw [comeM] at h1 h2
  by_cases p1:n ∈ path
  ·rw [if_pos p1] at h1;cases h1
  ·by_cases p2:n ∈ path'
   ·rw [if_pos p2] at h2;cases h2
   ·rw [if_neg p1] at h1
    rw [if_neg p2] at h2
    by_cases c1:100<=(c,ps).1
    ·rw [if_pos c1] at h1;cases h1
    ·by_cases c2:100<=(c',ps').1
     ·rw [if_pos c2] at h2;cases h2
     ·rw [if_neg c1] at h1
      rw [if_neg c2] at h2
      by_cases hs:shownE M [] n=false
      ·rw [if_pos hs] at h1 h2
       cases h1
       cases h2
       exact .none
      ·rw [if_neg hs] at h1 h2
       cases k1:moveM M n m with
       | error e=>rw [k1] at h1;cases h1
       | ok a=>
        cases k2:moveM M n m' with
        | error e=>rw [k2] at h2;cases h2
        | ok b=>
         rw [k1] at h1
         rw [k2] at h2
         simp only at h1 h2
         have hab:MvS x y a b:=by
          unfold moveM at k1 k2
          split at k1
          ·cases k1
          ·next hr=>
           rw [if_neg hr] at k2
           split at k1
           ·next t1=>
            split at k2
            ·next t2=>
             cases k1
             cases k2
             exact hm.then_ (hrd _ (by simpa using hr)) t1 t2
            ·cases k2
           ·cases k1
         by_cases hb:nmD M n=kBox
         ·rw [if_pos hb] at h1 h2
          exact piece_shift hab hx hy (hbx n) h1 h2
         ·rw [if_neg hb] at h1 h2
          by_cases hp:nmD M n=kPoly
          ·rw [if_pos hp] at h1 h2
           exact piece_shift hab hx hy (hpl n) h1 h2
          ·rw [if_neg hp] at h1 h2
           by_cases hg:nmD M n=kGroup
           ·rw [if_pos hg] at h1 h2
            exact fold_shift (comeM.kidsM M n) _ _ s s' (fun k hk a1 b1 s1 s1' g1 g2=>come_shift hx hy hrd hbx hpl f f' k _ _ _ _ a1.1 b1.1 a1.2 b1.2 s1 s1' hab g1 g2) h1 h2
           ·rw [if_neg hg] at h1 h2
            cases hl:ledM M n with
            | none=>rw [hl] at h1;cases h1
            | some k=>
             rw [hl] at h1 h2
             exact come_shift hx hy hrd hbx hpl f f' k _ _ _ _ _ _ _ _ s s' hab h1 h2
end
section
structure UseV (M1 M2:Dm) (r:Int->Nat) (nu:Int) (it mvx:Bs):Prop where
 wd:Wd M1 r
 same:∀ i,i≠0->i≠nu->M2 i=M1 i
 out:M1 nu=none
 r1:M1 0=some ⟨kGroup,[], -1,[1]⟩
 r2:M2 0=some ⟨kGroup,[], -1,[1,nu]⟩
 g:∃ ks,M1 1=some ⟨kGroup,[(kId,it)],0,ks⟩
 u:M2 nu=some ⟨kUse,[(kOf,it),(kMove,mvx)],0,[]⟩
section
variable {M1 M2:Dm} {r:Int->Nat} {nu:Int} {it mvx:Bs}
theorem UseV.alk (h:UseV M1 M2 r nu it mvx):AlkE M2 M1:=fun i e he=>by
 by_cases h0:i=0
 ·subst h0
  rw [h.r1] at he
  cases he
  exact ⟨_,h.r2,rfl,rfl,rfl⟩
 ·by_cases hn:i=nu
  ·subst hn
   rw [h.out] at he
   cases he
  ·exact ⟨e,(h.same i h0 hn).trans he,rfl,rfl,rfl⟩
theorem at_nil (M:Dm) (n:Int) (nm:Bs) {e:Elm} (he:M n=some e) (ha:e.ats=[]):atM M n nm=none:=by
 unfold atM
 rw [he]
 show atOf e.ats nm=none
 rw [ha]
 rfl
theorem UseV.one_kids (h:UseV M1 M2 r nu it mvx) (f:Nat) (d:Int):pre M2 f 1 d=pre M1 f 1 d:=by
 obtain ⟨ks,hg⟩:=h.g
 refine pre_congr f 1 d (fun x hx=>?_) (fun hn=>by rw [hg] at hn;cases hn) (fun y q _ hq k hk=>?_)
 ·obtain ⟨⟨y,dy⟩,hy,rfl⟩:=List.mem_map.1 hx
  have hb:=(h.wd.pre_in f 1 d y dy hy).1
  have h0:y≠0:=by
   rintro rfl
   have:=(h.wd.low hb).2 (by omega)
   have:=h.wd.r0
   have:=(h.wd.rb 1 _ hg).1
   omega
  have hn:y≠nu:=by
   rintro rfl
   obtain ⟨e,he⟩:=hb.in_
   rw [h.out] at he
   cases he
  exact h.same y h0 hn
 ·obtain ⟨x,hx, -⟩:=h.wd.down y q k hq hk
  rw [hx]
  simp
theorem UseV.all (h:UseV M1 M2 r nu it mvx):allM M2=allM M1++[nu]/\∃ l,allM M1=0 :: 1 :: l:=by
 obtain ⟨ks,hg⟩:=h.g
 have e1:allM M1=0 :: (pre M1 10 1 2).map Prod.fst:=by
  unfold allM fromL
  rw [pre,h.r1]
  simp
 have e2:allM M2=0 :: ((pre M2 10 1 2).map Prod.fst++[nu]):=by
  unfold allM fromL
  rw [pre,h.r2]
  simp [pre,h.u]
 refine ⟨by rw [e1,e2,h.one_kids];rfl,?_⟩
 rw [e1,pre,hg]
 exact ⟨_,by rw [List.map_cons]⟩
theorem UseV.mem_all (h:UseV M1 M2 r nu it mvx) {k:Int} (hk:k ∈ allM M1):∃ e,M1 k=some e:=by
 unfold allM fromL at hk
 obtain ⟨e0,he0, -⟩:=h.wd.root
 exact ((h.wd.mem (h.wd.dp 11 0 e0 he0 (by omega))).1 hk).in_
theorem find_app {α:Type} {p q:α->Bool} {l:List α} {a:α} (h:∀ x ∈ l,p x=q x) (ha:p a=false):(l++[a]).find? p=l.find? q:=by
 induction l with
 | nil=>simp [ha]
 | cons x l ih=>
  rw [List.cons_append,List.find?_cons,List.find?_cons,h x (by simp),ih (fun y hy=>h y (by simp [hy]))]
theorem UseV.led (h:UseV M1 M2 r nu it mvx) {n:Int} {e:Elm} (he:M1 n=some e):ledM M2 n=ledM M1 n:=by
 unfold ledM
 rw [h.alk.at_ he]
 cases atM M1 n kOf with
 | none=>rfl
 | some v=>
  dsimp only
  rw [h.all.1]
  refine find_app (fun k hk=>?_) ?_
  ·obtain ⟨ek,hek⟩:=h.mem_all hk
   rw [h.alk.at_ hek]
  ·have:atM M2 nu kId=none:=by
    unfold atM
    rw [h.u]
    rfl
   rw [this]
   rfl
theorem UseV.led_in (h:UseV M1 M2 r nu it mvx) {n k:Int} (hk:ledM M1 n=some k):(∃ e,M1 k=some e)/\k≠0:=by
 unfold ledM at hk
 cases ha:atM M1 n kOf with
 | none=>rw [ha] at hk;cases hk
 | some v=>
  rw [ha] at hk
  simp only at hk
  refine ⟨h.mem_all (List.mem_of_find?_eq_some hk),?_⟩
  rintro rfl
  have:=List.find?_some hk
  rw [at_nil M1 0 kId h.r1 rfl] at this
  cases this
theorem UseV.led_u (h:UseV M1 M2 r nu it mvx):ledM M2 nu=some 1:=by
 obtain ⟨ks,hg⟩:=h.g
 have h1:atM M2 nu kOf=some it:=by
  unfold atM
  rw [h.u]
  rfl
 have h2:atM M2 0 kId=none:=at_nil M2 0 kId h.r2 rfl
 have h3:atM M2 1 kId=some it:=by
  rw [h.alk.at_ hg]
  unfold atM
  rw [hg]
  rfl
 unfold ledM
 rw [h1,h.all.1]
 obtain ⟨l,hl⟩:=h.all.2
 rw [hl]
 dsimp only
 rw [List.cons_append,List.find?_cons,h2,List.cons_append,List.find?_cons,h3]
 simp
theorem fold_same {α:Type} {A B:α->Int->Except Ft α}:∀ (l:List Int) (s:α),(∀ k ∈ l,∀ s,A s k=B s k)->l.foldlM A s=l.foldlM B s
 | [],_,_=>rfl
 | k :: l,s,h=>by
  rw [List.foldlM_cons,List.foldlM_cons,h k (by simp)]
  cases B s k with
  | error e=>rfl
  | ok t=>exact fold_same l t fun k hk=>h k (by simp [hk])
theorem piece_same {Ma Mb:Dm} (h:AlkE Ma Mb) (hw:Wd Mb r) {i:Int} {e:Elm} (he:Mb i=some e) (m:Mv) (x:Except Nat (List Qt)) (st:Nat × List Pc):pieceM Ma [] i m x st=pieceM Mb [] i m x st:=by
 unfold pieceM
 rw [h.of_ hw kFill he,h.of_ hw kRule he,h.of_ hw kLevel he]
theorem come_agree (h:UseV M1 M2 r nu it mvx):∀ (f:Nat) (n:Int) (e:Elm) (path:List Int) (m:Mv) (st:Nat × List Pc),M1 n=some e->n≠0->comeM M2 [] f n path m st=comeM M1 [] f n path m st
 | 0,_,_,_,_,_,_,_=>rfl
 | f+1,n,e,path,m,st,he,h0=>by
  rw [comeM,comeM,h.alk.shown h.wd he,h.alk.move he,h.alk.name he,h.alk.box he,h.alk.poly he,h.led he]
  have hn:n≠nu:=by
   rintro rfl
   rw [h.out] at he
   cases he
  have hk:comeM.kidsM M2 n=comeM.kidsM M1 n:=by
   unfold comeM.kidsM
   rw [h.same n h0 hn]
  rw [hk]
  cases moveM M1 n m with
  | error c=>rfl
  | ok m'=>
   dsimp only
   rw [piece_same h.alk h.wd he,piece_same h.alk h.wd he]
   have hf:(comeM.kidsM M1 n).foldlM (fun s k=>comeM M2 [] f k (n :: path) m' s) (st.1+1,st.2)=(comeM.kidsM M1 n).foldlM (fun s k=>comeM M1 [] f k (n :: path) m' s) (st.1+1,st.2):=by
    refine fold_same _ _ fun k hk s=>?_
    unfold comeM.kidsM at hk
    rw [he] at hk
    obtain ⟨x,hx, -,hx0⟩:=h.wd.down n e k he hk
    exact come_agree h f k x _ _ _ hx hx0
   rw [hf]
   cases hl:ledM M1 n with
   | none=>rfl
   | some k=>
    obtain ⟨⟨x,hx⟩,hx0⟩:=h.led_in hl
    dsimp only
    rw [come_agree h f k x _ _ _ hx hx0]
theorem sortM_flat {l:List Pc} (h:∀ p ∈ l,p.lv=0):sortM l=l:=by
 unfold sortM
 rw [show (1000:Nat)=999+1 from rfl,List.range_succ_eq_map,List.flatMap_cons]
 have h1:l.filter (fun x=>x.lv==((0:Nat):Int))=l:=List.filter_eq_self.2 fun p hp=>by simp [h p hp]
 have h2:((List.range 999).map Nat.succ).flatMap (fun (k:Nat)=>l.filter (fun x=>x.lv==(k:Int)))=[]:=by
  rw [List.flatMap_eq_nil_iff]
  intro k hk
  obtain ⟨j, -,rfl⟩:=List.mem_map.1 hk
  rw [List.filter_eq_nil_iff]
  intro p hp
  rw [h p hp]
  simp
  omega
 rw [h1,h2,List.append_nil]
theorem come_flat {M:Dm} (hl:∀ n,lvM (ofM M [] kLevel n)=0):∀ (f:Nat) (n:Int) (path:List Int) (m:Mv) (st s:Nat × List Pc),(∀ p ∈ st.2,p.lv=0)->comeM M [] f n path m st=.ok s->∀ p ∈ s.2,p.lv=0
 | 0,n,path,_,_,_,_,h1=>by
  rw [comeM] at h1
  split at h1 <;> cases h1
 | f+1,n,path,m,st,s,h0,h1=>by
  have hP:∀ m' x t,pieceM M [] n m' x (st.1+1,st.2)=.ok t->∀ p ∈ t.2,p.lv=0:=fun m' x t ht=>by
   unfold pieceM at ht
   cases x with
   | error e=>cases ht
   | ok q=>
    simp only at ht
    cases hgo:goM m' q with
    | none=>rw [hgo] at ht;cases ht
    | some q'=>
     rw [hgo] at ht
     simp only at ht
     split at ht
     ·cases ht
      exact h0
     ·cases ht
      intro p hp
      rcases List.mem_append.1 hp with hp | hp
      ·exact h0 p hp
      ·rw [List.mem_singleton.1 hp]
       exact hl n
  rw [comeM] at h1
  split at h1
  ·cases h1
  ·split at h1
   ·cases h1
   ·split at h1
    ·cases h1
     exact h0
    ·split at h1
     ·cases h1
     ·next m' _=>
      split at h1
      ·exact hP _ _ _ h1
      ·split at h1
       ·exact hP _ _ _ h1
       ·split at h1
        ·have key:∀ (l:List Int) (a b:Nat × List Pc),(∀ p ∈ a.2,p.lv=0)->l.foldlM (fun s k=>comeM M [] f k (n :: path) m' s) a=.ok b->∀ p ∈ b.2,p.lv=0:=fun l=>by
          induction l with
          | nil=>intro a b ha hb;cases hb;exact ha
          | cons k l ih=>
           intro a b ha hb
           rw [List.foldlM_cons] at hb
           cases hk:comeM M [] f k (n :: path) m' a with
           | error e=>rw [hk] at hb;cases hb
           | ok t=>
            rw [hk] at hb
            exact ih t b (come_flat hl f k _ _ a t ha hk) hb
         exact key _ (st.1+1,st.2) _ h0 h1
        ·split at h1
         ·cases h1
         ·exact come_flat hl f _ _ _ (st.1+1,st.2) _ h0 h1
theorem uses_all (h:UseV M1 M2 r nu it mvx) {x y:Int} (hx:x.natAbs<=1073741824) (hy:y.natAbs<=1073741824) (hrd:∀ s:ByteArray,(readR s).2=0->(readR s).1.ok) (hr0:readR ⟨#[]⟩=(.one,0)) (hrx:readR ⟨mvx.toArray⟩=(shM x y,0))
  (hbx:∀ n l,boxM M1 n=.ok l->∀ a ∈ l,(ptQ a).ok) (hpl:∀ n l,polyM M1 n=.ok l->∀ a ∈ l,(ptQ a).ok) (hl1:∀ n,lvM (ofM M1 [] kLevel n)=0) (hl2:∀ n,lvM (ofM M2 [] kLevel n)=0) :
  (∀ e,piecesM M1 []=.error e->piecesM M2 []=.error e)/\(∀ p q,piecesM M1 []=.ok p->piecesM M2 []=.ok q->q=p++p.map (shPc x y)/\∀ a ∈ p,goM (shM x y) a.pts=some (a.pts.map (goP (shM x y)))):=by
 obtain ⟨ks,hg⟩:=h.g
 have hs1:∀ M:Dm,(∃ k,M 0=some ⟨kGroup,[], -1,k⟩)->shownE M [] 0=true:=fun M ⟨k,hk⟩=>by
  unfold shownE nmD ofM
  rw [hk]
  simp only [ofF,toldM_nil]
  rw [at_nil M 0 kShow hk rfl]
  rfl
 have hm1:∀ M:Dm,(∃ k,M 0=some ⟨kGroup,[], -1,k⟩)->moveM M 0 .one=.ok .one:=fun M ⟨k,hk⟩=>by
  have:valM M 0 kMove=[]:=by
   unfold valM
   rw [at_nil M 0 kMove hk rfl]
   rfl
  unfold moveM
  rw [this]
  rw [show (⟨([]:Bs).toArray⟩:ByteArray)=⟨#[]⟩ from rfl,hr0]
  simp only [thenS_one one_ok]
  rfl
 have hn1:∀ M:Dm,(∃ k,M 0=some ⟨kGroup,[], -1,k⟩)->nmD M 0=kGroup:=fun M ⟨k,hk⟩=>by
  unfold nmD
  rw [hk]
 have root:∀ (M:Dm) (k:List Int),M 0=some ⟨kGroup,[], -1,k⟩->comeM M [] 101 0 [-1] .one (0,[])=k.foldlM (fun s k=>comeM M [] 100 k [0, -1] .one s) (1,[]):=fun M k hk=>by
  rw [comeM,if_neg (by decide),if_neg (by decide),if_neg (by rw [hs1 M ⟨k,hk⟩];decide),hm1 M ⟨k,hk⟩]
  dsimp only
  rw [hn1 M ⟨k,hk⟩,if_neg (by decide),if_neg (by decide),if_pos rfl]
  have:comeM.kidsM M 0=k:=by unfold comeM.kidsM;rw [hk]
  rw [this]
 have R1:=root M1 [1] h.r1
 have R2:=root M2 [1,nu] h.r2
 rw [List.foldlM_cons] at R1 R2
 rw [come_agree h 100 1 _ _ _ _ hg (by omega)] at R2
 cases hc:comeM M1 [] 100 1 [0, -1] .one (1,[]) with
 | error e=>
  rw [hc] at R1 R2
  have R1:comeM M1 [] 101 0 [-1] .one (0,[])=.error e:=R1
  have R2:comeM M2 [] 101 0 [-1] .one (0,[])=.error e:=R2
  unfold piecesM
  rw [R1,R2]
  exact ⟨fun e' he'=>he',fun p q hp=>(by cases hp)⟩
 | ok s=>
  rw [hc] at R1 R2
  have R1:comeM M1 [] 101 0 [-1] .one (0,[])=.ok s:=R1
  have R2:comeM M2 [] 101 0 [-1] .one (0,[])=(do let t <- comeM M2 [] 100 nu [0, -1] .one s;[].foldlM (fun s k=>comeM M2 [] 100 k [0, -1] .one s) t):=by
   rw [R2]
   show [nu].foldlM (fun s k=>comeM M2 [] 100 k [0, -1] .one s) s=_
   rw [List.foldlM_cons]
  refine ⟨fun e he=>(by unfold piecesM at he;rw [R1] at he;cases he),fun p q hp hq=>?_⟩
  unfold piecesM at hp hq
  rw [R1] at hp
  simp only at hp
  rw [sortM_flat (come_flat hl1 100 1 _ _ _ s (by simp) hc)] at hp
  cases hp
  cases hu:comeM M2 [] 100 nu [0, -1] .one s with
  | error e=>
   rw [hu] at R2
   have R2:comeM M2 [] 101 0 [-1] .one (0,[])=.error e:=R2
   rw [R2] at hq
   cases hq
  | ok t=>
   rw [hu] at R2
   have R2:comeM M2 [] 101 0 [-1] .one (0,[])=.ok t:=R2
   rw [R2] at hq
   simp only at hq
   have hflat:=come_flat hl2 101 0 _ _ _ t (by simp) R2
   rw [sortM_flat hflat] at hq
   cases hq
   have hmu:moveM M2 nu .one=.ok (shM x y):=by
    have:valM M2 nu kMove=mvx:=by
     unfold valM atM
     rw [h.u]
     rfl
    unfold moveM
    rw [this,hrx]
    have hsok:(shM x y).ok:=(MvS.start hx hy).ok'
    simp only [thenS_one hsok]
    rfl
   have hnu:nmD M2 nu=kUse:=by unfold nmD;rw [h.u]
   have hsu:shownE M2 [] nu=true:=by
    unfold shownE ofM
    rw [hnu,h.u]
    by_cases hneg:nu<0
    ·simp only [ofF,if_pos hneg]
     rfl
    ·simp only [ofF,if_neg hneg,toldM_nil]
     have:atM M2 nu kShow=none:=by
      unfold atM
      rw [h.u]
      rfl
     rw [this]
     rfl
   have hu2:=hu
   rw [comeM] at hu2
   split at hu2
   ·cases hu2
   ·split at hu2
    ·cases hu2
    ·rw [if_neg (by rw [hsu];decide),hmu] at hu2
     simp only at hu2
     rw [hnu,if_neg (by decide),if_neg (by decide),if_neg (by decide),h.led_u] at hu2
     simp only at hu2
     rw [come_agree h 99 1 _ _ _ _ hg (by omega)] at hu2
     obtain ⟨w,k1,k2,k3⟩:=come_shift hx hy hrd hbx hpl 100 99 1 _ _ _ _ 1 (s.1+1) [] s.2 s t (MvS.start hx hy) hc hu2
     rw [List.nil_append] at k1
     subst k1
     exact ⟨k2,k3⟩
end
end
end Go.Proofs.YtgphclgmmocdhaaGreatDoor

/-
  Parts of the proof.
-/
import Derived.Test.YtgphclgmmocdhaaGreatDoorQh12
import Derived.Test.YtgphclgmmocdhaaGreatDoorQh1
import Derived.Test.YtgphclgmmocdhaaGreatDoorQh11
import Derived.Lib.SliceRun
import Derived.Deep.RegionHeld3
import Derived.Deep.AppendLies
namespace Go.Proofs.YtgphclgmmocdhaaGreatDoor
section
open Go.RowKit
structure FlM where
  nm:Bs
  c:Value
  parent:Int
  deep:Nat
def FlM.cells (x:FlM):List Value:=[.string ⟨x.nm.toArray⟩,x.c,.int .i64 x.parent,.int .i64 x.deep]
def cellsF:List FlM->List Value
  | []=>[]
  | x :: r=>x.cells++cellsF r
theorem cellsF_append:∀ a c:List FlM,cellsF (a++c)=cellsF a++cellsF c
  | [],_=>rfl
  | x :: a,c=>by simp [cellsF,cellsF_append a c]
theorem cellsF_snoc (a:List FlM) (x:FlM):cellsF (a++[x])=cellsF a++x.cells:=by rw [cellsF_append];simp [cellsF]
def FlR (W0:World) (x:FlM) (f:Fl):Prop:=x.nm=f.name/\AtsIn W0 x.c f.attrs/\x.parent=f.parent/\x.deep=f.deep/\x.nm.length<=maxLen
def FlRs (W0:World):List FlM->List Fl->Prop
  | [],[]=>True
  | x :: r,f :: q=>FlR W0 x f/\FlRs W0 r q
  | _,_=>False
theorem FlRs.len {W0:World}:∀ {a:List FlM} {f:List Fl},FlRs W0 a f->a.length=f.length
  | [],[],_=>rfl
  | _ :: r,_ :: q,h=>by simp [FlRs.len (a:=r) (f:=q) h.2]
  | [],_ :: _,h=>h.elim
  | _ :: _,[],h=>h.elim
theorem FlRs.app {W0:World}:∀ {a c:List FlM} {f g:List Fl},FlRs W0 a f->FlRs W0 c g->FlRs W0 (a++c) (f++g)
  | [],_,[],_,_,k=>k
  | _ :: r,_,_ :: q,_,h,k=>⟨h.1,FlRs.app (a:=r) (f:=q) h.2 k⟩
  | [],_,_ :: _,_,h,_=>h.elim
  | _ :: _,_,[],_,h,_=>h.elim
theorem own_low {w:World} {B:Nat} {e:TypeId} {size:Nat} {v:Value} {n:Nat} {xs:List Value} (h:w.ownsRow B e size v n xs):∀ k,v.ownBlock=some k->B<=k:=by
  rcases h.2 with ⟨rfl,_⟩ | ⟨g,cap,cur,rfl,hg,_⟩
  · intro k hk;cases hk
  · intro k hk
    cases hk
    exact hg
theorem own_kind {w:World} {B:Nat} {e:TypeId} {size:Nat} {v:Value} {n:Nat} {xs:List Value} (h:w.ownsRow B e size v n xs):∀ g,v.ownBlock=some g->∃ c fz,w.heap[g]? = some (.cells c e fz):=by
  rcases h.2 with ⟨rfl,_⟩ | ⟨g,cap,cur,rfl,_,hgg,_⟩
  · intro k hk;cases hk
  · intro k hk
    cases hk
    exact ⟨cur,_,hgg⟩
structure FK (B:Nat) (w w':World):Prop where
  low:Below B w w'
  oth:Lib.OthersKept 35 none w w'
theorem FK.trans {B:Nat} {w w' w'':World} (h:FK B w w') (k:FK B w' w''):FK B w w'':=⟨h.low.trans k.low,h.oth.trans k.oth⟩
theorem FK.refl (B:Nat) (w:World):FK B w w:=⟨Below.refl _ _,Lib.OthersKept.refl _ _ _⟩
theorem FK.al {B:Nat} (w:World) (o:Obj) (hB:B<=w.heap.size):FK B w (w.alloc o):=⟨(Below.refl B w).alloc hB o,(Lib.OthersKept.refl _ _ w).alloc o⟩
theorem FK.box {B:Nat} {w w':World} (h:FK B w w') {N:Nat} {cs:Array Value} {t:TypeId} (hN:w.heap[N]? = some (.cells cs t)) (ht:t≠35):w'.heap[N]? = some (.cells cs t):=
  h.oth N _ hN (fun e=>nomatch e) (fun c fz e=>by cases e;exact ht rfl)
theorem FK.grown {B:Nat} {w w':World} {v:Value} {n:Nat} {xs:List Value} (ho:w.ownsRow B 35 4 v n xs) (hg:w.grownBy w' v.ownBlock) (hB:B<=w.heap.size):FK B w w':=
  ⟨(Below.refl B w).grown hg hB (own_low ho),(Lib.OthersKept.refl _ _ w).grown hg (own_kind ho)⟩
theorem FK.grown0 {B:Nat} {w w':World} (hg:w.grownBy w' none) (hB:B<=w.heap.size):FK B w w':=
  ⟨(Below.refl B w).grown hg hB (fun _ hk=>nomatch hk),(Lib.OthersKept.refl _ _ w).grown hg (fun _ hk=>nomatch hk)⟩
theorem flatInfo:(Tryz.prog.info? 35).map (fun i=>(i.zero,i.size,i.bytes))=some (some (.agg #[.string ⟨#[]⟩,.slice none 0 0,.int .i64 0,.int .i64 0]),4,56):=by kernel_rfl
theorem own_slice {w:World} {B:Nat} {e:TypeId} {k:Nat} {v:Value} {n:Nat} {xs:List Value} (h:w.ownsRow B e k v n xs):∃ o cap,v=.slice o n cap:=by
  rcases h.2 with ⟨hv,hn⟩ | ⟨g,cap,cur,hv,_⟩
  · exact ⟨_,_,by rw [hv,hn]⟩
  · exact ⟨_,_,hv⟩
theorem four_cells (w:World) (a b c d:Value) (t:TypeId):∀ j u,[a,b,c,d][j]? = some u->(w.alloc (.cells #[a,b,c,d] t)).cell? ((⟨w.heap.size,0,none⟩:Addr).add j)=some u:=by
  intro j u h
  have e:(⟨w.heap.size,0,none⟩:Addr).add j=⟨w.heap.size,j,none⟩:=by unfold Addr.add;split <;> simp_all
  rw [e]
  exact mnew w #[a,b,c,d] t j u (by simpa using h)
theorem flL_append (k:Nat) (p:Int) (d:Nat):∀ (a c:List Nd),flL k p d (a++c)=flL k p d a++flL (k+(flL k p d a).length) p d c:=by
  intro a
  induction a generalizing k with
  | nil=>intro c;simp [flL]
  | cons x a ih=>
    intro c
    rw [List.cons_append,flL,flL,ih,List.length_append,List.append_assoc,Nat.add_assoc]
theorem flL_more {k:Nat} {p:Int} {d:Nat} {ks:List Nd} {i:Nat} {x:Nd} (hx:ks[i]? = some x):flL k p d (ks.take (i+1))=flL k p d (ks.take i)++flN (k+(flL k p d (ks.take i)).length) p d x:=by
  rw [List.take_add_one,hx,flL_append];simp [flL]
end
section
open Go.RowKit
def cellsA:List (Bs × Bs)->List Value
 | []=>[]
 | x :: r=>[.string ⟨x.1.toArray⟩,.string ⟨x.2.toArray⟩]++cellsA r
theorem cellsA_append:∀ a c:List (Bs × Bs),cellsA (a++c)=cellsA a++cellsA c
 | [],_=>rfl
 | x :: a,c=>by simp [cellsA,cellsA_append a c]
theorem cellsA_snoc (a:List (Bs × Bs)) (x:Bs × Bs):cellsA (a++[x])=cellsA a++[.string ⟨x.1.toArray⟩,.string ⟨x.2.toArray⟩]:=by rw [cellsA_append];simp [cellsA]
theorem row_get {w:World} {B k:Nat} {e:TypeId} {v:Value} {n:Nat} {xs:List Value} (h:w.ownsRow B e k v n xs) (j:Nat) (u:Value) (hj:xs[j]? = some u):∃ g,v.ownBlock=some g/\w.cell? ⟨g,j,none⟩=some u:=by
 obtain ⟨h1,h2⟩:=h
 rcases h2 with ⟨_,h2⟩ | ⟨g,cap,cur,h3,h4,h5,h6,h7,h8,h9⟩
 ·subst h2
  have hx:xs=[]:=List.eq_nil_of_length_eq_zero (by simpa using h1)
  rw [hx] at hj
  simp at hj
 ·refine ⟨g,by rw [h3];rfl,?_⟩
  rw [<- h9,List.getElem?_take] at hj
  split at hj
  ·unfold World.cell?
   rw [h5]
   simpa using hj
  ·cases hj
theorem row_slice {w:World} {B k:Nat} {e:TypeId} {v:Value} {n:Nat} {xs:List Value} (h:w.ownsRow B e k v n xs):∃ o cap,v=.slice o n cap/\n<=cap/\cap<=maxLen/\(o=none->cap=0)/\∀ g,v.ownBlock=some g->o=some ⟨g,0,none⟩:=by
 rcases h.2 with ⟨h1,h2⟩ | ⟨g,cap,cur,h3,h4,h5,h6,h7,h8,h9⟩
 ·exact ⟨none,0,by rw [h1,h2],by omega,by omega,fun _=>rfl,fun g hg=>by rw [h1] at hg;cases hg⟩
 ·exact ⟨_,cap,h3,h6,h7,(fun h=>by cases h),(fun g' hg=>by rw [h3] at hg;cases hg;rfl)⟩
theorem own_same {w w':World} {B k n:Nat} {e:TypeId} {v:Value} {xs:List Value} (h:w.ownsRow B e k v n xs) (hs:∀ g,v.ownBlock=some g->w'.heap[g]? = w.heap[g]?):w'.ownsRow B e k v n xs:=by
 obtain ⟨h1,h2⟩:=h
 refine ⟨h1,?_⟩
 rcases h2 with h2 | ⟨g,cap,cur,h3,h4,h5,h6⟩
 ·exact .inl h2
 ·exact .inr ⟨g,cap,cur,h3,h4,(hs g (by rw [h3];rfl)).trans h5,h6⟩
theorem own_bel {B k n:Nat} {e:TypeId} {v:Value} {xs:List Value} {w w':World} (h:w.ownsRow B e k v n xs) (hb:Below w.heap.size w w'):w'.ownsRow B e k v n xs:=
 own_same h fun g hg=>hb.block g (h.lt g hg).2
theorem own_ne {R B k n:Nat} {e:TypeId} {v:Value} {xs:List Value} {w:World} (h:w.ownsRow B e k v n xs) (hR:R<B):some R≠v.ownBlock:=fun e=>by have:=(h.lt R e.symm).1;omega
theorem attrInfo:(Tryz.prog.info? 49).map (fun i=>(i.zero,i.size,i.bytes))=some (some (.agg #[.string ⟨#[]⟩,.string ⟨#[]⟩]),2,32):=by kernel_rfl
theorem intInfo:(Tryz.prog.info? 3).map (fun i=>(i.zero,i.size,i.bytes))=some (some (.int .i64 0),1,8):=by kernel_rfl
def NB (N:Nat) (c0 c1 c2:Value) (w:World):Prop:=w.heap[N]? = some (.cells #[c0,c1,c2] 25)
theorem NB.c0 {N:Nat} {c0 c1 c2:Value} {w:World} (h:NB N c0 c1 c2 w):w.cell? ⟨N,0,none⟩=some c0:=bcell h 0 _ rfl
theorem NB.c1 {N:Nat} {c0 c1 c2:Value} {w:World} (h:NB N c0 c1 c2 w):w.cell? ⟨N,1,none⟩=some c1:=bcell h 1 _ rfl
theorem NB.c2 {N:Nat} {c0 c1 c2:Value} {w:World} (h:NB N c0 c1 c2 w):w.cell? ⟨N,2,none⟩=some c2:=bcell h 2 _ rfl
end
section
open Go.RowKit
inductive Tg where
 | doc
 | map
 | el (i:Int)
 | ats (i:Int)
 | kids (i:Int)
abbrev Tags:=Nat->Option Tg
def intsV (l:List Int):List Value:=l.map (Value.int .i64)
theorem intsV_app (a b:List Int):intsV (a++b)=intsV a++intsV b:=List.map_append
theorem intsV_len (l:List Int):(intsV l).length=l.length:=List.length_map ..
theorem intsV_get {l:List Int} {j:Nat} {k:Int} (h:l[j]? = some k):(intsV l)[j]? = some (.int .i64 k):=by
 unfold intsV
 rw [List.getElem?_map,h]
 rfl
abbrev Wf64 (k:Int):Prop:=(Lit.int .i64 k).wf=true
structure ElW (B:Nat) (tg:Tags) (w:World) (i:Int) (b:Nat) (e:Elm) (va vk:Value):Prop where
 cells:w.heap[b]? = some (.cells #[.string ⟨e.name.toArray⟩,va,.int .i64 e.parent,vk] 97)
 tag:tg b=some (.el i)
 ats:w.ownsRow B 49 2 va e.ats.length (cellsA e.ats)
 atag:∀ g,va.ownBlock=some g->tg g=some (.ats i)
 kids:w.ownsRow B 3 1 vk e.kids.length (intsV e.kids)
 ktag:∀ g,vk.ownBlock=some g->tg g=some (.kids i)
theorem ElW.turn {B:Nat} {tg tg':Tags} {w w':World} {i:Int} {b:Nat} {e:Elm} {va vk:Value} (h:ElW B tg w i b e va vk) (hs:∀ g t,tg g=some t->(t=.el i\/t=.ats i\/t=.kids i)->tg' g=some t/\w'.heap[g]? = w.heap[g]?):ElW B tg' w' i b e va vk where
 cells:=((hs b _ h.tag (.inl rfl)).2).trans h.cells
 tag:=(hs b _ h.tag (.inl rfl)).1
 ats:=own_same h.ats fun g hg=>(hs g _ (h.atag g hg) (.inr (.inl rfl))).2
 atag:=fun g hg=>(hs g _ (h.atag g hg) (.inr (.inl rfl))).1
 kids:=own_same h.kids fun g hg=>(hs g _ (h.ktag g hg) (.inr (.inr rfl))).2
 ktag:=fun g hg=>(hs g _ (h.ktag g hg) (.inr (.inr rfl))).1
theorem ElW.c0 {B:Nat} {tg:Tags} {w:World} {i:Int} {b:Nat} {e:Elm} {va vk:Value} (h:ElW B tg w i b e va vk):w.cell? ⟨b,0,none⟩=some (.string ⟨e.name.toArray⟩):=bcell h.cells 0 _ rfl
theorem ElW.c1 {B:Nat} {tg:Tags} {w:World} {i:Int} {b:Nat} {e:Elm} {va vk:Value} (h:ElW B tg w i b e va vk):w.cell? ⟨b,1,none⟩=some va:=bcell h.cells 1 _ rfl
theorem ElW.c2 {B:Nat} {tg:Tags} {w:World} {i:Int} {b:Nat} {e:Elm} {va vk:Value} (h:ElW B tg w i b e va vk):w.cell? ⟨b,2,none⟩=some (.int .i64 e.parent):=bcell h.cells 2 _ rfl
theorem ElW.c3 {B:Nat} {tg:Tags} {w:World} {i:Int} {b:Nat} {e:Elm} {va vk:Value} (h:ElW B tg w i b e va vk):w.cell? ⟨b,3,none⟩=some vk:=bcell h.cells 3 _ rfl
theorem froz_at {w:World} {b:Nat} {cs:Array Value} {t:TypeId} (h:w.heap[b]? = some (.cells cs t)) (i:Nat):w.frozen? ⟨b,i,none⟩=false:=by
 unfold World.frozen?
 rw [h]
 simp
structure DocW (B:Nat) (tg:Tags) (w:World) (DB MB:Nat) (p:Int->Option Nat) (M:Dm) (nx c:Nat):Prop where
 doc:w.heap[DB]? = some (.cells #[.map (some MB),.int .i64 nx] 92)
 dtag:tg DB=some .doc
 map:PMap Tryz.prog 3 w MB p nx c
 mtag:tg MB=some .map
 els:∀ i e,M i=some e->∃ b va vk,p i=some b/\ElW B tg w i b e va vk
 non:∀ i,M i=none->p i=none
 low:∀ b t,tg b=some t->B<=b/\b<w.heap.size
 dom:∀ i e,M i=some e->0<=i/\i<nx
 wf:∀ i e,M i=some e->Wf64 e.parent/\∀ k ∈ e.kids,Wf64 k
 few:nx<=1000000
 tnx:∀ b i,tg b=some (.el i)\/tg b=some (.ats i)\/tg b=some (.kids i)->i<nx
structure K2 (r n:Nat) (W w:World):Prop where
 os:w.os=W.os
 tape:w.tape=W.tape
 output:w.output=W.output
 size:W.heap.size<=w.heap.size
 block:∀ k,k<W.heap.size->k≠r->k≠n->w.heap[k]? = W.heap[k]?
theorem K2.trans {r n:Nat} {A B C:World} (h:K2 r n A B) (k:K2 r n B C):K2 r n A C:=
 ⟨k.os.trans h.os,k.tape.trans h.tape,k.output.trans h.output,Nat.le_trans h.size k.size,fun i hi h1 h2=>(k.block i (Nat.lt_of_lt_of_le hi h.size) h1 h2).trans (h.block i hi h1 h2)⟩
theorem K2.of_below {r n:Nat} {A B:World} (h:Below A.heap.size A B):K2 r n A B:=⟨h.os,h.tape,h.output,h.size,fun i hi _ _=>h.block i hi⟩
theorem K2.below {r n m:Nat} {A B:World} (h:K2 r n A B) (h1:m<=r) (h2:m<=n) (hm:m<=A.heap.size):Below m A B:=⟨h.os,h.tape,h.output,h.size,fun i hi=>h.block i (by omega) (by omega) (by omega)⟩
theorem K2.cell {r n:Nat} {A B:World} (h:K2 r n A B) {b i:Nat} {v:Value} (hc:A.cell? ⟨b,i,none⟩=some v) (h1:b≠r) (h2:b≠n):B.cell? ⟨b,i,none⟩=some v:=by
 rw [World.cell?_of_block (h.block b (cell_lt3 hc) h1 h2)];exact hc
structure KT (tg:Tags) (w w':World):Prop where
 os:w'.os=w.os
 tape:w'.tape=w.tape
 output:w'.output=w.output
 size:w.heap.size<=w'.heap.size
 block:∀ b,b<w.heap.size->tg b=none->w'.heap[b]? = w.heap[b]?
theorem KT.of_below {tg:Tags} {w w':World} (h:Below w.heap.size w w'):KT tg w w':=⟨h.os,h.tape,h.output,h.size,fun b hb _=>h.block b hb⟩
theorem KT.trans {tg tg':Tags} {w w' w'':World} (h:KT tg w w') (k:KT tg' w' w'') (hg:∀ b,b<w.heap.size->tg' b=tg b):KT tg w w'':=
 ⟨k.os.trans h.os,k.tape.trans h.tape,k.output.trans h.output,Nat.le_trans h.size k.size,fun b hb hn=>(k.block b (Nat.lt_of_lt_of_le hb h.size) ((hg b hb).trans hn)).trans (h.block b hb hn)⟩
theorem KT.below {B:Nat} {tg:Tags} {w w':World} (h:KT tg w w') (hl:∀ b t,tg b=some t->B<=b) (hB:B<=w.heap.size):Below B w w':=
 ⟨h.os,h.tape,h.output,h.size,fun b hb=>h.block b (Nat.lt_of_lt_of_le hb hB) (by
  cases ht:tg b with
  | none=>rfl
  | some t=>have:=hl b t ht;omega)⟩
section
variable {B:Nat} {tg tg':Tags} {w w':World} {DB MB:Nat} {p:Int->Option Nat} {M:Dm} {nx c:Nat}
theorem DocW.turn (h:DocW B tg w DB MB p M nx c) (hs:∀ g t,tg g=some t->w'.heap[g]? = w.heap[g]?) (hz:w.heap.size<=w'.heap.size):DocW B tg w' DB MB p M nx c where
 doc:=(hs DB _ h.dtag).trans h.doc
 dtag:=h.dtag
 map:=h.map.same (hs MB _ h.mtag)
 mtag:=h.mtag
 els:=fun i e he=>by
  obtain ⟨b,va,vk,h1,h2⟩:=h.els i e he
  exact ⟨b,va,vk,h1,h2.turn fun g t ht _=>⟨ht,hs g t ht⟩⟩
 non:=h.non
 low:=fun b t ht=>⟨(h.low b t ht).1,Nat.lt_of_lt_of_le (h.low b t ht).2 hz⟩
 dom:=h.dom
 wf:=h.wf
 few:=h.few
 tnx:=h.tnx
theorem DocW.below (h:DocW B tg w DB MB p M nx c) (hb:Below w.heap.size w w'):DocW B tg w' DB MB p M nx c:=
 h.turn (fun g t ht=>hb.block g (h.low g t ht).2) hb.size
theorem DocW.d0 (h:DocW B tg w DB MB p M nx c):w.cell? ⟨DB,0,none⟩=some (.map (some MB)):=bcell h.doc 0 _ rfl
theorem DocW.d1 (h:DocW B tg w DB MB p M nx c):w.cell? ⟨DB,1,none⟩=some (.int .i64 nx):=bcell h.doc 1 _ rfl
theorem DocW.i64 (h:DocW B tg w DB MB p M nx c) {i:Int} {e:Elm} (he:M i=some e):Wf64 i:=by
 have:=h.dom i e he
 have:=h.few
 exact WalkArith.wf_i64 (by omega)
theorem DocW.new (h:DocW B tg w DB MB p M nx c) {b:Nat} (hb:w.heap.size<=b):tg b=none:=by
 cases ht:tg b with
 | none=>rfl
 | some t=>have:=(h.low b t ht).2;omega
theorem DocW.put (h:DocW B tg w DB MB p M nx c) {i:Int} {e e':Elm} {b:Nat} {va vk:Value} (hi:M i=some e) (hb:p i=some b) (he:ElW B tg' w' i b e' va vk) (_hz:w.heap.size<=w'.heap.size) (hw:Wf64 e'.parent/\∀ k ∈ e'.kids,Wf64 k)
  (hg:∀ x,x<w.heap.size->tg' x=tg x) (hl:∀ x t,tg' x=some t->B<=x/\x<w'.heap.size) (ht:∀ x,w.heap.size<=x->tg' x=none\/tg' x=some (.el i)\/tg' x=some (.ats i)\/tg' x=some (.kids i)) (hs:∀ x t,tg x=some t->t≠.el i->t≠.ats i->t≠.kids i->w'.heap[x]? = w.heap[x]?):DocW B tg' w' DB MB p (putE M i e') nx c where
 doc:=(hs DB _ h.dtag (by simp) (by simp) (by simp)).trans h.doc
 dtag:=(hg DB (h.low _ _ h.dtag).2).trans h.dtag
 map:=h.map.same (hs MB _ h.mtag (by simp) (by simp) (by simp))
 mtag:=(hg MB (h.low _ _ h.mtag).2).trans h.mtag
 els:=fun j f hf=>by
  unfold putE at hf
  split at hf
  ·rename_i hj
   subst hj
   cases hf
   exact ⟨b,va,vk,hb,he⟩
  ·rename_i hj
   obtain ⟨b',va',vk',h1,h2⟩:=h.els j f hf
   refine ⟨b',va',vk',h1,h2.turn fun g t ht hk=>⟨(hg g (h.low g t ht).2).trans ht,hs g t ht ?_ ?_ ?_⟩⟩
   all_goals rcases hk with rfl | rfl | rfl <;> simp [hj]
 non:=fun j hj=>by
  unfold putE at hj
  split at hj
  ·cases hj
  ·exact h.non j hj
 low:=hl
 dom:=fun j f hf=>by
  unfold putE at hf
  split at hf
  ·rename_i hj;subst hj;exact h.dom _ e hi
  ·exact h.dom j f hf
 wf:=fun j f hf=>by
  unfold putE at hf
  split at hf
  ·cases hf;exact hw
  ·exact h.wf j f hf
 few:=h.few
 tnx:=fun x j hj=>by
  by_cases hx:x<w.heap.size
  ·rw [hg x hx] at hj
   exact h.tnx x j hj
  ·have hij:j=i:=by
    rcases ht x (by omega) with h1 | h1 | h1 | h1 <;> rw [h1] at hj <;> simp at hj <;> exact hj.symm
   rw [hij]
   exact (h.dom i e hi).2
end
end
section
open Go.RowKit
set_option maxHeartbeats 2000000
theorem zeroEl (w:World):(zeroValue 94).run Tryz.prog w=.ok (.pointer none) w:=by kernel_rfl
structure NewE (B:Nat) (tg:Tags) (w:World) (b:Nat) (e:Elm) (va vk:Value):Prop where
  cells:w.heap[b]? = some (.cells #[.string ⟨e.name.toArray⟩,va,.int .i64 e.parent,vk] 97)
  low:B<=b
  tag:tg b=none
  ats:w.ownsRow B 49 2 va e.ats.length (cellsA e.ats)
  atag:∀ g,va.ownBlock=some g->tg g=none/\g≠b
  kids:w.ownsRow B 3 1 vk e.kids.length (intsV e.kids)
  ktag:∀ g,vk.ownBlock=some g->tg g=none/\g≠b/\va.ownBlock≠some g
def tagE (tg:Tags) (i:Int) (b:Nat) (va vk:Value):Tags:=fun x=>if x=b then some (.el i) else if va.ownBlock=some x then some (.ats i) else if vk.ownBlock=some x then some (.kids i) else tg x
theorem tagE_old {tg:Tags} {i:Int} {b:Nat} {va vk:Value} {x:Nat} {t:Tg} (h:tg x=some t) (hb:tg b=none) (ha:∀ g,va.ownBlock=some g->tg g=none) (hk:∀ g,vk.ownBlock=some g->tg g=none):tagE tg i b va vk x=some t:=by
  unfold tagE
  rw [if_neg (fun e=>by rw [e,hb] at h;cases h),if_neg (fun e=>by rw [ha x e] at h;cases h),if_neg (fun e=>by rw [hk x e] at h;cases h)]
  exact h
theorem tagE_none {tg:Tags} {i:Int} {b:Nat} {va vk:Value} {x:Nat} (h1:x≠b) (h2:va.ownBlock≠some x) (h3:vk.ownBlock≠some x):tagE tg i b va vk x=tg x:=by
  unfold tagE
  rw [if_neg h1,if_neg h2,if_neg h3]
section
variable {B:Nat} {tg:Tags} {w w':World} {DB MB:Nat} {p:Int->Option Nat} {M:Dm} {nx c:Nat}
theorem DocW.add (h:DocW B tg w DB MB p M nx c) {b:Nat} {e:Elm} {va vk:Value} (hn:NewE B tg w b e va vk) (hw:Wf64 e.parent/\∀ k ∈ e.kids,Wf64 k) (hnx:nx<1000000)
    (hm:PMap Tryz.prog 3 w' MB (fun i=>if i=(nx:Int) then some b else p i) (nx+1) (c+1)) (hd:w'.heap[DB]? = some (.cells #[.map (some MB),.int .i64 ((nx+1:Nat):Int)] 92))
    (hs:∀ x,x≠DB->x≠MB->w'.heap[x]? = w.heap[x]?) (hz:w.heap.size<=w'.heap.size):DocW B (tagE tg nx b va vk) w' DB MB (fun i=>if i=(nx:Int) then some b else p i) (putE M nx e) (nx+1) (c+1):=by
  have old:∀ x t,tg x=some t->tagE tg nx b va vk x=some t:=fun x t ht=>tagE_old ht hn.tag (fun g hg=>(hn.atag g hg).1) (fun g hg=>(hn.ktag g hg).1)
  have ne:∀ x t,tg x=some t->t≠.doc->t≠.map->x≠DB/\x≠MB:=fun x t ht h1 h2=>⟨fun e=>h1 (Option.some.inj (ht.symm.trans (e ▸ h.dtag))),fun e=>h2 (Option.some.inj (ht.symm.trans (e ▸ h.mtag)))⟩
  have nne:∀ x,tg x=none->x≠DB/\x≠MB:=fun x hx=>⟨fun e=>(by rw [e,h.dtag] at hx;exact absurd hx (by simp)),fun e=>(by rw [e,h.mtag] at hx;exact absurd hx (by simp))⟩
  have hbn:=nne b hn.tag
  refine ⟨hd,old _ _ h.dtag,hm,old _ _ h.mtag,fun i f hf=>?_,fun i hi=>?_,fun x t ht=>?_,fun i f hf=>?_,fun i f hf=>?_,by omega,fun x j hj=>?_⟩
  · unfold putE at hf
    by_cases hi:i=nx
    · rw [if_pos hi] at hf
      cases hf
      subst hi
      refine ⟨b,va,vk,by simp,⟨(hs b hbn.1 hbn.2).trans hn.cells,by unfold tagE;rw [if_pos rfl],own_same hn.ats fun g hg=>?_,fun g hg=>?_,own_same hn.kids fun g hg=>?_,fun g hg=>?_⟩⟩
      · have:=nne g (hn.atag g hg).1;exact hs g this.1 this.2
      · unfold tagE;rw [if_neg (hn.atag g hg).2,if_pos hg]
      · have:=nne g (hn.ktag g hg).1;exact hs g this.1 this.2
      · unfold tagE;rw [if_neg (hn.ktag g hg).2.1,if_neg (hn.ktag g hg).2.2,if_pos hg]
    · rw [if_neg hi] at hf
      obtain ⟨b',va',vk',h1,h2⟩:=h.els i f hf
      refine ⟨b',va',vk',by simp only [if_neg hi];exact h1,h2.turn fun g t ht hk=>⟨old g t ht,?_⟩⟩
      have:=ne g t ht (by rcases hk with rfl | rfl | rfl <;> simp) (by rcases hk with rfl | rfl | rfl <;> simp)
      exact hs g this.1 this.2
  · unfold putE at hi
    by_cases hj:i=nx
    · rw [if_pos hj] at hi;cases hi
    · rw [if_neg hj] at hi
      simp only [if_neg hj]
      exact h.non i hi
  · unfold tagE at ht
    split at ht
    · rename_i e;subst e;exact ⟨hn.low,Nat.lt_of_lt_of_le (heap_lt hn.cells) hz⟩
    · split at ht
      · rename_i e;have:=hn.ats.lt x e;omega
      · split at ht
        · rename_i e;have:=hn.kids.lt x e;omega
        · have:=h.low x t ht;omega
  · unfold putE at hf
    by_cases hi:i=nx
    · omega
    · rw [if_neg hi] at hf
      have:=h.dom i f hf
      omega
  · unfold putE at hf
    by_cases hi:i=nx
    · rw [if_pos hi] at hf;cases hf;exact hw
    · rw [if_neg hi] at hf;exact h.wf i f hf
  · unfold tagE at hj
    split at hj
    · have:(nx:Int)=j:=by simpa using hj
      omega
    · split at hj
      · have:(nx:Int)=j:=by simpa using hj
        omega
      · split at hj
        · have:(nx:Int)=j:=by simpa using hj
          omega
        · have:=h.tnx x j hj
          omega
theorem DocW.fresh (h:DocW B tg w DB MB p M nx c):M nx=none/\p nx=none:=by
  have:M nx=none:=by
    cases hm:M nx with
    | none=>rfl
    | some e=>have:=h.dom nx e hm;omega
  exact ⟨this,h.non nx this⟩
theorem DocW.ne (h:DocW B tg w DB MB p M nx c):MB≠DB:=fun e=>by have h1:=h.dtag;rw [<- e,h.mtag] at h1;cases h1
end
theorem keep_doc (B:Nat) (tg:Tags) (w:World) (DB MB:Nat) (p:Int->Option Nat) (M:Dm) (nx c b:Nat) (e:Elm) (va vk:Value) (h:DocW B tg w DB MB p M nx c) (hn:NewE B tg w b e va vk) (hw:Wf64 e.parent/\∀ k ∈ e.kids,Wf64 k) (hnx:nx<1000000) :
    Calls Tryz.prog 36 #[.pointer (some ⟨DB,0,none⟩),.pointer (some ⟨b,0,none⟩)] w fun r w'=>r=.returned (.int .i64 nx)/\K2 DB MB w w'/\DocW B (tagE tg nx b va vk) w' DB MB (fun i=>if i=(nx:Int) then some b else p i) (putE M nx e) (nx+1) (c+1):=by
  have d0:=h.d0
  have d1:=h.d1
  have hfr:=h.fresh
  have hnx':(nx:Int)<=1000000:=by omega
  have hmx:nx<maxLen:=by rw [maxLen_eq];omega
  have hne:=h.ne
  go_enter Tryz.func36,Tryz.ntmps36
  go_wp2_with (at_mapUpdate;refine store_new _ rfl _ _ _ 90 rfl Tryz.underlying3 Tryz.underlying90 rfl h.map hmx (nx:Int) rfl (WalkArith.wf_i64 (by omega)) b rfl hfr.2 ?_;intro w1 pm1 ht1;have e0:=(ht1.grown.block DB (heap_lt h.doc) (fun e=>hne (Option.some.inj e).symm)).trans h.doc;have c0:=bcell e0 0 _ rfl;have c1:=bcell e0 1 _ rfl;have cf:=froz_at e0)
  go_ret
  have hs1:=heap_setCell_same w1 DB 1 _ _ (.int .i64 ((nx:Int)+1)) e0
  have hb:∀ x,x≠DB->x≠MB->(w1.setCell ⟨DB,1,none⟩ (.int .i64 ((nx:Int)+1))).heap[x]? = w.heap[x]? := fun x h1 h2=>by
    rw [Below.heap_setCell _ _ _ x h1]
    by_cases hx:x<w.heap.size
    · exact ht1.grown.block x hx (fun e=>h2 (Option.some.inj e))
    · have:w1.heap.size=w.heap.size:=by obtain ⟨es,cl,es',cl', -,rfl⟩:=ht1;simp [Go.ChangeMaps.setBlock]
      rw [Array.getElem?_eq_none (by omega),Array.getElem?_eq_none (by omega)]
  have hz:w.heap.size<=(w1.setCell ⟨DB,1,none⟩ (.int .i64 ((nx:Int)+1))).heap.size:=by
    have:=ht1.grown.size
    have:=((Below.refl DB w1).setCell (p:=⟨DB,1,none⟩) Nat.le.refl (.int .i64 ((nx:Int)+1))).size
    omega
  have hset:=(Below.refl DB w1).setCell (p:=⟨DB,1,none⟩) Nat.le.refl (.int .i64 ((nx:Int)+1))
  refine ⟨rfl,⟨hset.os.trans ht1.grown.os,hset.tape.trans ht1.grown.tape,hset.output.trans ht1.grown.output,hz,fun x _ h1 h2=>hb x h1 h2⟩,h.add hn hw hnx (pm1.same (Below.heap_setCell _ _ _ MB hne)) ?_ hb hz⟩
  rw [hs1]
  rfl
theorem Name_doc {B:Nat} {tg:Tags} {w:World} {DB MB:Nat} {p:Int->Option Nat} {M:Dm} {nx c:Nat} (h:DocW B tg w DB MB p M nx c) (n:Int) (hn:Wf64 n) :
    Calls Tryz.prog 76 #[.pointer (some ⟨DB,0,none⟩),.int .i64 n] w fun r w'=>r=.returned (.string ⟨(match M n with | none=>[] | some e=>e.name).toArray⟩)/\w'=w:=by
  have d0:=h.d0
  cases hm:M n with
  | none=>
    have hp:=h.non n hm
    go_enter Tryz.func76,Tryz.ntmps76
    go_wp2_with (at_lookup;refine look_no _ rfl _ _ 90 rfl Tryz.underlying3 Tryz.underlying90 (zeroEl _) rfl h.map n rfl hn hp ?_)
    go_ret
    exact ⟨rfl,rfl⟩
  | some e=>
    obtain ⟨b,va,vk,hp,he⟩:=h.els n e hm
    have x0:=he.c0
    go_enter Tryz.func76,Tryz.ntmps76
    go_wp2_with (at_lookup;refine look_yes _ rfl _ _ 90 rfl Tryz.underlying3 Tryz.underlying90 (zeroEl _) rfl h.map n rfl hn b hp ?_)
    go_ret
    exact ⟨rfl,rfl⟩
theorem Parent_doc {B:Nat} {tg:Tags} {w:World} {DB MB:Nat} {p:Int->Option Nat} {M:Dm} {nx c:Nat} (h:DocW B tg w DB MB p M nx c) (n:Int) (hn:Wf64 n) :
    Calls Tryz.prog 78 #[.pointer (some ⟨DB,0,none⟩),.int .i64 n] w fun r w'=>r=.returned (.int .i64 (match M n with | none => -1 | some e=>e.parent))/\w'=w:=by
  have d0:=h.d0
  cases hm:M n with
  | none=>
    have hp:=h.non n hm
    go_enter Tryz.func78,Tryz.ntmps78
    go_wp2_with (at_lookup;refine look_no _ rfl _ _ 90 rfl Tryz.underlying3 Tryz.underlying90 (zeroEl _) rfl h.map n rfl hn hp ?_)
    go_ret
    exact ⟨rfl,rfl⟩
  | some e=>
    obtain ⟨b,va,vk,hp,he⟩:=h.els n e hm
    have x0:=he.c2
    go_enter Tryz.func78,Tryz.ntmps78
    go_wp2_with (at_lookup;refine look_yes _ rfl _ _ 90 rfl Tryz.underlying3 Tryz.underlying90 (zeroEl _) rfl h.map n rfl hn b hp ?_)
    go_ret
    exact ⟨rfl,rfl⟩
end
section
open Go.RowKit
set_option maxHeartbeats 2000000
theorem cellsA_len:∀ l:List (Bs × Bs),(cellsA l).length=l.length * 2
  | []=>rfl
  | x :: r=>by simp [cellsA,cellsA_len r];omega
theorem cellsA_inv:∀ (l:List (Bs × Bs)) (j:Nat) (u:Value),(cellsA l)[j]? = some u->∃ i x,l[i]? = some x/\((j=i * 2/\u=.string ⟨x.1.toArray⟩)\/(j=i * 2+1/\u=.string ⟨x.2.toArray⟩))
  | [],j,u,h=>by simp [cellsA] at h
  | x :: r,0,u,h=>by
    simp [cellsA] at h
    exact ⟨0,x,rfl,.inl ⟨rfl,h.symm⟩⟩
  | x :: r,1,u,h=>by
    simp [cellsA] at h
    exact ⟨0,x,rfl,.inr ⟨rfl,h.symm⟩⟩
  | x :: r,j+2,u,h=>by
    have h':(cellsA r)[j]? = some u:=by simpa [cellsA] using h
    obtain ⟨i,y,h1,h2⟩:=cellsA_inv r j u h'
    exact ⟨i+1,y,by simpa using h1,h2.imp (fun h=>⟨by omega,h.2⟩) (fun h=>⟨by omega,h.2⟩)⟩
theorem cellsA_one (l:List (Bs × Bs)):∀ u ∈ cellsA l,u.oneCell'=true:=fun u hu=>by
  obtain ⟨j,hj⟩:=List.getElem?_of_mem hu
  obtain ⟨i,x, -,⟨-,rfl⟩ | ⟨-,rfl⟩⟩:=cellsA_inv l j u hj <;> rfl
theorem ats_news {w:World} {a:Addr} {ats:List (Bs × Bs)} (h:AtsAt w (some a) ats):∀ j u,(cellsA ats)[j]? = some u->w.cell? (a.add j)=some u:=fun j u hu=>by
  obtain ⟨i,x,hx,h2⟩:=cellsA_inv ats j u hu
  obtain ⟨b,off,h3,h4,h5, -⟩:=h i x hx
  cases h3
  have hadd:∀ k,(⟨b,off,none⟩:Addr).add k=⟨b,off+k,none⟩:=fun k=>by unfold Addr.add;split <;> simp_all
  rw [hadd]
  rcases h2 with ⟨rfl,rfl⟩ | ⟨rfl,rfl⟩
  · exact h4
  · rw [<- Nat.add_assoc];exact h5
theorem CloneA (w:World) (v:Value) (ats:List (Bs × Bs)) (h:AtsIn w v ats) (hl:ats.length<=1000000) :
    Calls Tryz.prog 35 #[v] w fun e w'=>∃ o n k,e=.returned (.slice o n k)/\w'.ownsRow w.heap.size 49 2 (.slice o n k) ats.length (cellsA ats)/\Below w.heap.size w w':=by
  obtain ⟨o,cap,rfl,h1,h2,h3,h4⟩:=h
  have q22:∀ (w:World) (a:Option Addr) (n c n' c':Nat),(binOp .eql 22 (.slice a n c) (.slice none n' c')).run Tryz.prog w=.ok (.bool a.isNone) w:=fun w a n c n' c'=>Lib.run_eql_slice_nil w _ _ a n c n' c' Tryz.underlying22
  obtain ⟨i0,hi,hz0,hz1,hz2⟩:=info_parts attrInfo
  cases o with
  | none=>
    have hc:=h3 rfl
    have hz:ats=[]:=List.length_eq_zero_iff.1 (by omega)
    subst hz
    go_enter Tryz.func35,Tryz.ntmps35
    go_wp2_with fail
    go_ret
    exact ⟨none,0,0,rfl,World.ownsRow_nil _ _ _ _,Below.refl _ _⟩
  | some a=>
    have HN:Hid (∀ j u,(cellsA ats)[j]? = some u->w.cell? (a.add j)=some u):=ats_news h4
    have HO:Hid (∀ u ∈ cellsA ats,u.oneCell'=true):=cellsA_one ats
    clear h4
    go_enter Tryz.func35,Tryz.ntmps35
    go_wp2_with (at_builtin;refine wpList_append_own _ rfl _ _ 22 rfl w.heap.size 49 i0 (.agg #[.string ⟨#[]⟩,.string ⟨#[]⟩]) 2 32 Tryz.underlying22 hi hz0 hz1 hz2 rfl (by decide) _ _ _ rfl (World.ownsRow_made w #[] 0 Nat.le.refl (Nat.zero_le _) (by simp)) a ats.length cap (cellsA ats) rfl (cellsA_len ats) (fun j u hj=>mcell_al _ (HN.out j u hj)) HO.out (by rw [maxLen_eq];omega) (by omega) (by simp) ?_;intro v7 w7 ow7 gr7 _;obtain ⟨o7,cap7,rfl⟩:=own_slice ow7)
    go_ret
    exact ⟨o7,_,cap7,rfl,by simpa using ow7,((Below.refl _ w).alloc Nat.le.refl _).grown gr7 (by simp) (fun k hk=>by have hk':some w.heap.size=some k:=hk;cases hk';exact Nat.le_refl _)⟩
mutual
def lowN:Nd->Prop
  | .mk _ ats ks=>ats.length<=12/\lowL ks
def lowL:List Nd->Prop
  | []=>True
  | k :: l=>lowN k/\lowL l
end
theorem lowL_mem:∀ {l:List Nd} {k:Nd},lowL l->k ∈ l->lowN k
  | [],_,_,h=>by simp at h
  | a :: l,k,h,hk=>by
    unfold lowL at h
    rcases List.mem_cons.1 hk with rfl | hk
    · exact h.1
    · exact lowL_mem h.2 hk
mutual
theorem lowN_of:∀ (n:Nd) (deep ahead:Nat),(ckN n deep ahead).1=0->lowN n
  | .mk nm ats ks,deep,ahead,h=>by
    unfold ckN at h
    split at h
    · rename_i h1
      unfold lowN
      exact ⟨(ck1_ok h1).2.1,lowL_of ks _ _ h⟩
    · rename_i h1;exact (h1 h).elim
theorem lowL_of:∀ (l:List Nd) (deep ahead:Nat),(ckK l deep ahead).1=0->lowL l
  | [],_,_,_=>by unfold lowL;trivial
  | k :: l,deep,ahead,h=>by
    by_cases h1:(ckN k deep ahead).1=0
    · rw [ckK_zero h1] at h
      unfold lowL
      exact ⟨lowN_of k deep ahead h1,lowL_of l _ _ h⟩
    · rw [ckK_pos h1] at h;exact (h1 h).elim
end
theorem szL_take_le (ks:List Nd) (i:Nat):szL (ks.take i)<=szL ks:=by
  have:=szL_app (ks.take i) (ks.drop i)
  rw [List.take_append_drop] at this
  omega
theorem take_snoc {ks:List Nd} {i:Nat} {k:Nd} (h:ks[i]? = some k):ks.take (i+1)=ks.take i++[k]:=by
  rw [List.take_add_one,h];rfl
end
section
open Go.RowKit
set_option maxHeartbeats 8000000
set_option maxRecDepth 20000
theorem own_mono {w:World} {B B' k n:Nat} {e:TypeId} {v:Value} {xs:List Value} (h:w.ownsRow B e k v n xs) (hb:B'<=B):w.ownsRow B' e k v n xs:=by
 obtain ⟨h1,h2⟩:=h
 refine ⟨h1,?_⟩
 rcases h2 with h2 | ⟨g,cap,cur,h3,h4,h5⟩
 ·exact .inl h2
 ·exact .inr ⟨g,cap,cur,h3,Nat.le_trans hb h4,h5⟩
def tagK (tg:Tags) (i:Int) (v:Value):Tags:=fun x=>if v.ownBlock=some x then some (.kids i) else tg x
theorem KdsAt.at {w:World} {o:Option Addr} {ks:List Nd} {i:Nat} {kid:Nd} (h:KdsAt w o 0 ks) (hx:ks[i]? = some kid):∃ b off c0 c1 c2,o=some ⟨b,off,none⟩/\w.cell? ⟨b,off+i * 3,none⟩=some c0/\w.cell? ⟨b,off+i * 3+1,none⟩=some c1/\w.cell? ⟨b,off+i * 3+2,none⟩=some c2/\NdC w c0 c1 c2 kid:=by
 obtain ⟨b,off,c0,c1,c2,h1,h2,h3,h4,h5⟩:=h.get hx
 rw [Nat.zero_add] at h2 h3 h4
 exact ⟨b,off,c0,c1,c2,h1,h2,h3,h4,h5⟩
theorem DocW.kid {B:Nat} {tg:Tags} {w w7:World} {DB MB:Nat} {p:Int->Option Nat} {M:Dm} {nx c EB:Nat} {i:Int} {e:Elm} {va vk v7:Value} {k:Int} {o:Obj} (h:DocW B tg w DB MB p M nx c) (hi:M i=some e) (hp:p i=some EB) (he:ElW B tg w i EB e va vk) (hk:Wf64 k)
  (ow7:w7.ownsRow B 3 1 v7 (e.kids.length+1) (intsV e.kids++[.int .i64 k])) (gr7:(w.alloc o).grownBy w7 vk.ownBlock) (loc7:v7.ownBlock=vk.ownBlock\/v7.ownBlock=some (w.alloc o).heap.size) :
  DocW B (tagK tg i v7) (w7.setCell ⟨EB,3,none⟩ v7) DB MB p (putE M i ⟨e.name,e.ats,e.parent,e.kids++[k]⟩) nx c/\(∀ x,x<w.heap.size->tagK tg i v7 x=tg x)/\(∀ x,x<w.heap.size->x≠EB->vk.ownBlock≠some x->(w7.setCell ⟨EB,3,none⟩ v7).heap[x]? = w.heap[x]?)/\w.heap.size<=(w7.setCell ⟨EB,3,none⟩ v7).heap.size/\(w7.setCell ⟨EB,3,none⟩ v7).os=w.os/\(w7.setCell ⟨EB,3,none⟩ v7).tape=w.tape/\(w7.setCell ⟨EB,3,none⟩ v7).output=w.output:=by
 have hEB:=heap_lt he.cells
 have hsz:(w.alloc o).heap.size=w.heap.size+1:=by simp
 have hz:w.heap.size+1<=w7.heap.size:=by have:=gr7.size;rw [<- hsz];exact this
 have hset:=(Below.refl EB w7).setCell (p:=⟨EB,3,none⟩) Nat.le.refl v7
 have neE:vk.ownBlock≠some EB:=fun e1=>by have h1:=he.ktag EB e1;rw [he.tag] at h1;cases h1
 have ne7:v7.ownBlock≠some EB:=fun e1=>by
  rcases loc7 with h1 | h1
  ·exact neE (h1.symm.trans e1)
  ·rw [h1] at e1;cases e1;omega
 have old:∀ x,x<w.heap.size->vk.ownBlock≠some x->w7.heap[x]? = w.heap[x]? := fun x hx hne=>by
  have h1:=gr7.block x (by show x<(w.alloc o).heap.size;omega) (fun e1=>hne e1.symm)
  exact h1.trans ((mal w o).block x hx)
 have tk:∀ x,x<w.heap.size->tagK tg i v7 x=tg x:=fun x hx=>by
  unfold tagK
  split
  ·rename_i h1
   rcases loc7 with h2 | h2
   ·exact (he.ktag x (h2.symm.trans h1)).symm
   ·rw [h2] at h1;cases h1;omega
  ·rfl
 have blk:∀ x,x<w.heap.size->x≠EB->vk.ownBlock≠some x->(w7.setCell ⟨EB,3,none⟩ v7).heap[x]? = w.heap[x]? := fun x hx h1 h2=>(Below.heap_setCell _ _ _ x h1).trans (old x hx h2)
 have hz8:w.heap.size<=(w7.setCell ⟨EB,3,none⟩ v7).heap.size:=by have:=hset.size;omega
 refine ⟨h.put hi hp (va:=va) (vk:=v7) ⟨?_,?_,?_,?_,?_,?_⟩ hz8 ⟨(h.wf i e hi).1,fun j hj=>?_⟩ tk ?_ ?_ ?_,tk,blk,hz8,hset.os.trans gr7.os,hset.tape.trans gr7.tape,hset.output.trans gr7.output⟩
 ·have h1:=(old EB hEB neE).trans he.cells
  rw [heap_setCell_same w7 EB 3 _ _ _ h1]
  rfl
 ·rw [tk EB hEB];exact he.tag
 ·exact own_same he.ats fun g hg=>blk g (he.ats.lt g hg).2 (fun e1=>by have h1:=he.atag g hg;rw [e1,he.tag] at h1;cases h1) (fun e1=>by have h1:=he.atag g hg;rw [he.ktag g e1] at h1;cases h1)
 ·intro g hg
  rw [tk g (he.ats.lt g hg).2];exact he.atag g hg
 ·have:=own_same (w':=w7.setCell ⟨EB,3,none⟩ v7) ow7 fun g hg=>Below.heap_setCell _ _ _ g (fun e1=>ne7 (by rw [hg,e1]))
  rw [intsV_app,List.length_append]
  exact this
 ·intro g hg
  unfold tagK
  rw [if_pos hg]
 ·rcases List.mem_append.1 hj with hj | hj
  ·exact (h.wf i e hi).2 j hj
  ·rw [List.mem_singleton.1 hj];exact hk
 ·intro x t ht
  unfold tagK at ht
  split at ht
  ·rename_i h1
   have h2:=ow7.lt x h1
   have:=hset.size
   omega
  ·have:=h.low x t ht
   omega
 ·intro x hx
  unfold tagK
  split
  ·exact .inr (.inr (.inr rfl))
  ·exact .inl (h.new hx)
 ·intro x t ht h1 h2 h3
  exact blk x (h.low x t ht).2 (fun e1=>by rw [e1,he.tag] at ht;cases ht;exact h1 rfl) (fun e1=>by rw [he.ktag x e1] at ht;cases ht;exact h3 rfl)
theorem kdN_len:∀ (l:List Nd) (k:Nat),(kdN k l).length=l.length
 | [],_=>rfl
 | n :: l,k=>by rw [kdN,List.length_cons,List.length_cons,kdN_len l]
theorem szL_len:∀ l:List Nd,l.length<=szL l
 | []=>Nat.le_refl _
 | n :: l=>by have h1:=szL_len l;have h2:=szN_pos n;rw [szL,List.length_cons];omega
theorem K2.of_drew {r n k:Nat} {A B:World} (h:K2 r n (A.drewN k) B):K2 r n A B:=⟨h.os,h.tape,h.output,h.size,h.block⟩
theorem kid_block {B:Nat} {tg:Tags} {wr U1 w4 w7:World} {DB MB EB:Nat} {i:Int} {e:Elm} {va vk:Value} {o:Obj} (he:ElW B tg wr i EB e va vk) (bU:Below wr.heap.size wr U1) (k4:K2 DB MB U1 w4) (hd:EB≠DB/\EB≠MB) (gr7:(w4.alloc o).grownBy w7 vk.ownBlock):w7.heap[EB]? = some (.cells #[.string ⟨e.name.toArray⟩,va,.int .i64 e.parent,vk] 97):=by
 have h1:=heap_lt he.cells
 have h2:=bU.size
 have h3:=k4.size
 have h4:(w4.alloc o).heap.size=w4.heap.size+1:=by simp
 have h5:=gr7.block EB (by show EB<(w4.alloc o).heap.size;omega) (fun e1=>by have h6:=he.ktag EB e1.symm;rw [he.tag] at h6;cases h6)
 exact h5.trans (((mal w4 o).block EB (by omega)).trans ((k4.block EB (by omega) hd.1 hd.2).trans ((bU.block EB h1).trans he.cells)))
def PutOk (W0:World) (PD PP DB MB:Nat) (n:Nd):Prop:=∀ (c0 c1 c2:Value) (parent:Int) (tg:Tags) (W:World) (p:Int->Option Nat) (M:Dm) (nx c:Nat),NdC W0 c0 c1 c2 n->lowN n->Below W0.heap.size W0 W->W.cell? ⟨PD,0,none⟩=some (.pointer (some ⟨DB,0,none⟩))->W.cell? ⟨PP,0,none⟩=some (.func (.func 34) #[] #[.pointer (some ⟨PD,0,none⟩),.pointer (some ⟨PP,0,none⟩)])->
 DocW W0.heap.size tg W DB MB p M nx c->tg PD=none->tg PP=none->Wf64 parent->nx+szN n<=1000000->
 Calls Tryz.prog 34 #[.agg #[c0,c1,c2],.int .i64 parent,.pointer (some ⟨PD,0,none⟩),.pointer (some ⟨PP,0,none⟩)] W fun e w'=>e=.returned (.int .i64 nx)/\K2 DB MB W w'/\∃ tg' p',(∀ x,x<W.heap.size->tg' x=tg x)/\(∀ i,i<(nx:Int)->p' i=p i)/\DocW W0.heap.size tg' w' DB MB p' (extE M nx (elN nx parent n)) (nx+szN n) (c+szN n)
def PutR (W0 W:World) (tg:Tags) (p:Int->Option Nat) (M:Dm) (DB MB N EB nx c:Nat) (cs:Array Value) (nm:Bs) (ats:List (Bs × Bs)) (parent:Int) (ks:List Nd) (wr:World):Prop:=
 ∃ tg1 p1,K2 DB MB W wr/\wr.heap[N]? = some (.cells cs 25)/\tg1 N=none/\(∀ x,x<W.heap.size->tg1 x=tg x)/\(∀ j,j<(nx:Int)->p1 j=p j)/\p1 nx=some EB/\DocW W0.heap.size tg1 wr DB MB p1 (extE M nx (⟨nm,ats,parent,kdN (nx+1) ks⟩ :: elL (nx+1) nx ks)) (nx+1+szL ks) (c+1+szL ks)
theorem put_step {W0 W wr U1 w4 w7:World} {tg tg1 tg2:Tags} {p p1 p2:Int->Option Nat} {M:Dm} {DB MB N EB nx c:Nat} {cs:Array Value} {nm:Bs} {ats:List (Bs × Bs)} {parent:Int} {ks:List Nd} {kid:Nd} {i:Nat} {va vk v7:Value} {o:Obj}
  (hx:ks[i]? = some kid) (k1:K2 DB MB W wr) (hN:wr.heap[N]? = some (.cells cs 25)) (tN:tg1 N=none) (ht1:∀ x,x<W.heap.size->tg1 x=tg x) (hp1:∀ j,j<(nx:Int)->p1 j=p j) (hpE:p1 nx=some EB)
  (hd1:DocW W0.heap.size tg1 wr DB MB p1 (extE M nx (⟨nm,ats,parent,kdN (nx+1) (ks.take i)⟩ :: elL (nx+1) nx (ks.take i))) (nx+1+szL (ks.take i)) (c+1+szL (ks.take i))) (he:ElW W0.heap.size tg1 wr nx EB ⟨nm,ats,parent,kdN (nx+1) (ks.take i)⟩ va vk)
  (bU:Below wr.heap.size wr U1) (k4:K2 DB MB U1 w4) (ht2:∀ x,x<U1.heap.size->tg2 x=tg1 x) (hp2:∀ j,j<((nx+1+szL (ks.take i):Nat):Int)->p2 j=p1 j) (hd0:DocW W0.heap.size tg W DB MB p M nx c)
  (hd2:DocW W0.heap.size tg2 w4 DB MB p2 (extE (extE M nx (⟨nm,ats,parent,kdN (nx+1) (ks.take i)⟩ :: elL (nx+1) nx (ks.take i))) (nx+1+szL (ks.take i)) (elN (nx+1+szL (ks.take i)) nx kid)) (nx+1+szL (ks.take i)+szN kid) (c+1+szL (ks.take i)+szN kid))
  (ow7:w7.ownsRow W0.heap.size 3 1 v7 ((kdN (nx+1) (ks.take i)).length+1) (intsV (kdN (nx+1) (ks.take i))++[.int .i64 ((nx+1+szL (ks.take i):Nat):Int)])) (gr7:(w4.alloc o).grownBy w7 vk.ownBlock) (loc7:v7.ownBlock=vk.ownBlock\/v7.ownBlock=some (w4.alloc o).heap.size) :
  PutR W0 W tg p M DB MB N EB nx c cs nm ats parent (ks.take (i+1)) (w7.setCell ⟨EB,3,none⟩ v7):=by
 have hs1:=bU.size
 have hEBw:=heap_lt he.cells
 have hnew:W.heap.size<=EB:=by
  rcases Nat.lt_or_ge EB W.heap.size with h | h
  ·have h1:=he.tag
   rw [ht1 EB h] at h1
   have:=hd0.tnx EB nx (.inl h1)
   omega
  ·exact h
 have hknew:∀ g,vk.ownBlock=some g->W.heap.size<=g:=fun g hg=>by
  rcases Nat.lt_or_ge g W.heap.size with h | h
  ·have h1:=he.ktag g hg
   rw [ht1 g h] at h1
   have:=hd0.tnx g nx (.inr (.inr h1))
   omega
  ·exact h
 have ne:∀ x t,tg1 x=some t->t≠.doc->t≠.map->x≠DB/\x≠MB:=fun x t hxt h1 h2=>⟨fun e=>h1 (Option.some.inj (hxt.symm.trans (e ▸ hd1.dtag))),fun e=>h2 (Option.some.inj (hxt.symm.trans (e ▸ hd1.mtag)))⟩
 have same4:∀ x,x<wr.heap.size->x≠DB->x≠MB->w4.heap[x]? = wr.heap[x]? := fun x h h1 h2=>(k4.block x (by omega) h1 h2).trans (bU.block x h)
 have he2:ElW W0.heap.size tg2 w4 nx EB ⟨nm,ats,parent,kdN (nx+1) (ks.take i)⟩ va vk:=he.turn fun g t ht hk=>by
  have hg:=(hd1.low g t ht).2
  have hn:=ne g t ht (by rcases hk with rfl | rfl | rfl <;> simp) (by rcases hk with rfl | rfl | rfl <;> simp)
  exact ⟨(ht2 g (by omega)).trans ht,same4 g hg hn.1 hn.2⟩
 have hM:extE (extE M nx (⟨nm,ats,parent,kdN (nx+1) (ks.take i)⟩ :: elL (nx+1) nx (ks.take i))) (nx+1+szL (ks.take i)) (elN (nx+1+szL (ks.take i)) nx kid)=extE M nx (⟨nm,ats,parent,kdN (nx+1) (ks.take i)⟩ :: (elL (nx+1) nx (ks.take i)++elN (nx+1+szL (ks.take i)) nx kid)):=by
  have h1:=extE_app M nx (⟨nm,ats,parent,kdN (nx+1) (ks.take i)⟩ :: elL (nx+1) nx (ks.take i)) (elN (nx+1+szL (ks.take i)) nx kid)
  rw [List.length_cons,elL_len,show nx+(szL (ks.take i)+1)=nx+1+szL (ks.take i) from by omega] at h1
  rw [h1,List.cons_append]
 rw [hM] at hd2
 have hpE2:p2 nx=some EB:=(hp2 nx (by omega)).trans hpE
 obtain ⟨r1,r2,r3,r4,r5,r6,r7⟩:=hd2.kid (k:=((nx+1+szL (ks.take i):Nat):Int)) (extE_at M nx _ _) hpE2 he2 (WalkArith.wf_i64 (by have:=hd2.few;omega)) ow7 gr7 loc7
 rw [extE_head] at r1
 have hN4:N<wr.heap.size:=heap_lt hN
 have nN:=ne
 have hNd:N≠DB/\N≠MB:=⟨fun e=>(by rw [e,hd1.dtag] at tN;exact absurd tN (by simp)),fun e=>(by rw [e,hd1.mtag] at tN;exact absurd tN (by simp))⟩
 have hNE:N≠EB:=fun e=>by rw [e,he.tag] at tN;cases tN
 have hNk:vk.ownBlock≠some N:=fun e=>by rw [he.ktag N e] at tN;cases tN
 have s4:=k4.size
 refine ⟨tagK tg2 nx v7,p2,?_,?_,?_,fun x h=>?_,fun j hj=>?_,hpE2,?_⟩
 ·have s1:=k1.size
  refine ⟨r5.trans (k4.os.trans (bU.os.trans k1.os)),r6.trans (k4.tape.trans (bU.tape.trans k1.tape)),r7.trans (k4.output.trans (bU.output.trans k1.output)),by omega,fun x h h1 h2=>?_⟩
  exact (r3 x (by omega) (by omega) (fun e=>by have:=hknew x e;omega)).trans ((same4 x (by omega) h1 h2).trans (k1.block x h h1 h2))
 ·exact (r3 N (by omega) hNE hNk).trans ((same4 N hN4 hNd.1 hNd.2).trans hN)
 ·rw [r2 N (by omega),ht2 N (by omega)];exact tN
 ·have:=k1.size
  rw [r2 x (by omega),ht2 x (by omega)];exact ht1 x h
 ·rw [hp2 j (by omega)];exact hp1 j hj
 ·rw [take_snoc hx,kdN_snoc,elL_snoc,szL_app,szL,szL]
  have e1:nx+1+(szL (ks.take i)+(szN kid+0))=nx+1+szL (ks.take i)+szN kid:=by omega
  have e2:c+1+(szL (ks.take i)+(szN kid+0))=c+1+szL (ks.take i)+szN kid:=by omega
  rw [e1,e2]
  exact r1
theorem DocW.tell {B:Nat} {tg:Tags} {w:World} {DB MB:Nat} {p:Int->Option Nat} {M:Dm} {nx c EB:Nat} {i:Int} {e:Elm} (h:DocW B tg w DB MB p M nx c) (hi:M i=some e) (hp:p i=some EB):∃ va o k,ElW B tg w i EB e va (.slice o e.kids.length k):=by
 obtain ⟨b,va,vk,h1,h2⟩:=h.els i e hi
 obtain rfl:EB=b:=Option.some.inj (hp.symm.trans h1)
 obtain ⟨o,cap,rfl⟩:=own_slice h2.kids
 exact ⟨va,o,cap,h2⟩
theorem put_any (W0:World) (PD PP DB MB:Nat):∀ n,PutOk W0 PD PP DB MB n:=by
 refine Nd.ind fun nm ats ks ih=>?_
 intro c0 c1 c2 parent tg W p M nx c hn hlow hb cD cP hd tD tP hwp hnx
 have hn':=hn
 unfold NdC at hn'
 obtain ⟨rfl,hl,hats,ok,capk,rfl,hkc,hkm,hk0,hks⟩:=hn'
 have hats':=hats
 obtain ⟨o1,cap1,rfl, -⟩:=hats'
 unfold lowN at hlow
 obtain ⟨hla,hlk⟩:=hlow
 unfold strV at *
 have A0:NB W.heap.size (.string ⟨nm.toArray⟩) (.slice o1 ats.length cap1) (.slice ok ks.length capk) (W.alloc (.cells #[.string ⟨nm.toArray⟩,.slice o1 ats.length cap1,.slice ok ks.length capk] 25)):=mbox W #[.string ⟨nm.toArray⟩,.slice o1 ats.length cap1,.slice ok ks.length capk] 25
 have b0:=mal W (.cells #[.string ⟨nm.toArray⟩,.slice o1 ats.length cap1,.slice ok ks.length capk] 25)
 have HKS:Hid (KdsAt W0 ok 0 ks):=hks
 have IH:Hid (∀ k ∈ ks,PutOk W0 PD PP DB MB k):=ih
 have HD:Hid (DocW W0.heap.size tg W DB MB p M nx c):=hd
 have HLK:Hid (lowL ks):=hlk
 have hqD:PD≠DB/\PD≠MB:=⟨fun e=>(by rw [e,hd.dtag] at tD;exact absurd tD (by simp)),fun e=>(by rw [e,hd.mtag] at tD;exact absurd tD (by simp))⟩
 have hqP:PP≠DB/\PP≠MB:=⟨fun e=>(by rw [e,hd.dtag] at tP;exact absurd tP (by simp)),fun e=>(by rw [e,hd.mtag] at tP;exact absurd tP (by simp))⟩
 have lD:=hd.low _ _ hd.dtag
 have lM:=hd.low _ _ hd.mtag
 have lPD:=cell_lt3 cD
 have lPP:=cell_lt3 cP
 simp only at lPD lPP
 clear hks ih hd hlk hn
 have hsz:szN (.mk nm ats ks)=szL ks+1:=by rw [szN]
 rw [hsz] at hnx
 go_enter Tryz.func34,Tryz.ntmps34
 go_upto_region 1 with fail
 obtain ⟨V,hV⟩:∃ V,W.alloc (.cells #[.string ⟨nm.toArray⟩,.slice o1 ats.length cap1,.slice ok ks.length capk] 25)=V:=⟨_,rfl⟩
 have sV:V.heap.size=W.heap.size+1:=by rw [<- hV];simp
 obtain ⟨N,hN⟩:∃ N,W.heap.size=N:=⟨_,rfl⟩
 rw [hV] at A0 b0 ⊢
 rw [hN] at A0 ⊢
 have HN:Hid (W.heap.size=N):=hN
 have HV:Hid (V.heap.size=N+1):=(by rw [sV,hN]:V.heap.size=N+1)
 clear hV hN sV
 have x0:=A0.c0
 have x1:=A0.c1
 have bV:=hb.trans (b0.mono hb.size)
 have CL:=fun V' (hv:Below V.heap.size V V')=>CloneA V' _ ats (hats.below (bV.trans (hv.mono bV.size))) (by omega)
 go_region_held3 (fun w'=>w'.cell? ⟨N,0,none⟩=some (.string ⟨nm.toArray⟩)/\w'.cell? ⟨N,1,none⟩=some (.slice o1 ats.length cap1)) (refine ⟨?_,?_⟩ <;> first | assumption | exact mcell_al _ (by assumption)) (first | (go_at_call 35;refine (CL _ (mdrew 1 (Below.refl _ _))).mono ?_;rintro e w2 ⟨o2,n2,k2,rfl,ow2,b2⟩;have x0:=(b2.cell (cell_lt3 x0)).trans x0;have x1:=(b2.cell (cell_lt3 x1)).trans x1))
 have b2':Below V.heap.size V w2:=⟨b2.os,b2.tape,b2.output,b2.size,b2.block⟩
 have ow2':w2.ownsRow V.heap.size 49 2 (.slice o2 n2 k2) ats.length (cellsA ats):=ow2
 have E0:=mbox w2 #[.string ⟨nm.toArray⟩,.slice o2 n2 k2,.int .i64 parent,.slice none 0 0] 97
 have bE:=mal w2 (.cells #[.string ⟨nm.toArray⟩,.slice o2 n2 k2,.int .i64 parent,.slice none 0 0] 97)
 have ow3:=World.ownsRow.alloc ow2' (.cells #[.string ⟨nm.toArray⟩,.slice o2 n2 k2,.int .i64 parent,.slice none 0 0] 97)
 have lt2:=ow2'.lt
 obtain ⟨U,hU⟩:∃ U,w2.alloc (.cells #[.string ⟨nm.toArray⟩,.slice o2 n2 k2,.int .i64 parent,.slice none 0 0] 97)=U:=⟨_,rfl⟩
 obtain ⟨EB,hEB⟩:∃ EB,w2.heap.size=EB:=⟨_,rfl⟩
 rw [hU] at E0 bE ow3 ⊢
 rw [hEB] at E0 ⊢
 have hVE:V.heap.size<=EB:=by rw [<- hEB];exact b2'.size
 have HB2:Hid (∀ g,(Value.slice o2 n2 k2).ownBlock=some g->V.heap.size<=g/\g<EB):=(fun g hg=>by rw [<- hEB];exact lt2 g hg:∀ g,(Value.slice o2 n2 k2).ownBlock=some g->V.heap.size<=g/\g<EB)
 clear hU hEB x0 x1 CL b2 ow2 ow2' lt2
 have bU:Below V.heap.size V U:=mbel b2' bE
 clear b2' bE
 have bWU:Below W.heap.size W U:=mbel b0 bU
 have HDU:Hid (DocW W0.heap.size tg U DB MB p M nx c):=HD.out.below bWU
 have hNE:N+1<=EB:=by have:=HV.out;omega
 have NE:NewE W0.heap.size tg U EB ⟨nm,ats,parent,[]⟩ (.slice o2 n2 k2) (.slice none 0 0):=⟨E0,by have:=HN.out;have:=hb.size;omega,HD.out.new (by have:=HN.out;omega),own_mono ow3 (Nat.le_trans hb.size b0.size),fun g hg=>by
   have:=HB2.out g hg
   have h2:=HN.out
   have h3:=HV.out
   exact ⟨HD.out.new (by omega),by omega⟩,World.ownsRow_nil _ _ _ _,fun g hg=>by cases hg⟩
 have KE:=keep_doc W0.heap.size tg U DB MB p M nx c EB ⟨nm,ats,parent,[]⟩ (.slice o2 n2 k2) (.slice none 0 0) HDU.out NE ⟨hwp,by simp⟩ (by omega)
 have AU:=(bU.block N (heap_lt A0)).trans A0
 have cDU:=(bWU.cell (cell_lt3 cD)).trans cD
 have cPU:=(bWU.cell (cell_lt3 cP)).trans cP
 have hND:N≠DB/\N≠MB:=by have:=HN.out;omega
 go_upto_region 3 with (go_at_call 36;refine KE.mono ?_;rintro e w3 ⟨rfl,k3,d3⟩)
 have A3:=(k3.block N (heap_lt AU) hND.1 hND.2).trans AU
 have y2:=NB.c2 A3
 have hkm':(ks.length:Int)<=9223372036854775807:=by rw [maxLen_eq] at hkm;omega
 have K3:K2 DB MB W w3:=(K2.of_below bWU).trans k3
 have R0:PutR W0 W tg p M DB MB N EB nx c #[.string ⟨nm.toArray⟩,.slice o1 ats.length cap1,.slice ok ks.length capk] nm ats parent (ks.take 0) w3:=by
  refine ⟨tagE tg nx EB (.slice o2 n2 k2) (.slice none 0 0),fun i=>if i=(nx:Int) then some EB else p i,K3,A3,?_,fun x hx=>?_,fun j hj=>?_,?_,?_⟩
  rotate_left 4
  ·rw [List.take_zero,kdN,elL,extE_one]
   exact d3
  ·have h2:=HN.out
   rw [tagE_none (by omega) (fun e=>by have:=HB2.out N e;have:=HV.out;omega) (by simp [Value.ownBlock])]
   exact HD.out.new (by omega)
  ·have h2:=HN.out
   exact tagE_none (by omega) (fun e=>by have:=HB2.out x e;have:=HV.out;omega) (by simp [Value.ownBlock])
  ·simp only [if_neg (show ¬ j=(nx:Int) by omega)]
  ·simp
 have HR0:Hid (PutR W0 W tg p M DB MB N EB nx c #[.string ⟨nm.toArray⟩,.slice o1 ats.length cap1,.slice ok ks.length capk] nm ats parent (ks.take 0) w3):=R0
 clear R0 d3 KE NE k3 cDU cPU
 go_wp2_with fail
 go_loopw [25] (fun y wr=>∃ i:Nat,i<=ks.length/\y=.int .i64 i/\PutR W0 W tg p M DB MB N EB nx c #[.string ⟨nm.toArray⟩,.slice o1 ats.length cap1,.slice ok ks.length capk] nm ats parent (ks.take i) wr) (fun y _=>ks.length - (intOf y).toNat)
 case atStart=>exact ⟨0,Nat.zero_le _,rfl,HR0.out⟩
 case round=>
  obtain ⟨i,hi,rfl,tg1,p1,k1,hN1,tN1,ht1,hp1,hpE,hd1⟩:=hrel
  by_cases hlt:i<ks.length
  ·have hlt':(i:Int)<(ks.length:Int):=by omega
   obtain ⟨kid,hx, -⟩:=drop_at hlt
   obtain ⟨b',off',d0,d1,d2,rfl,e0,e1,e2,hkid⟩:=HKS.out.at hx
   have hmem:kid ∈ ks:=List.mem_of_getElem? hx
   have HI:=IH.out kid hmem
   have hlkid:=lowL_mem HLK.out hmem
   have hkid':=hkid
   obtain ⟨nm',ats',ks'⟩:=kid
   unfold NdC at hkid'
   obtain ⟨rfl, -,⟨o',cap',rfl, -⟩,ok',capk',rfl, -⟩:=hkid'
   have bR:Below W0.heap.size W0 wr:=hb.trans (k1.below lD.1 lM.1 hb.size)
   have f0:=(bR.cell (cell_lt3 e0)).trans e0
   have f1:=(bR.cell (cell_lt3 e1)).trans e1
   have f2:=(bR.cell (cell_lt3 e2)).trans e2
   unfold strV at f0 f1 f2 hkid
   clear e0 e1 e2 hmem
   have hsl:=szL_take_le ks (i+1)
   rw [take_snoc hx,szL_app,szL,szL] at hsl
   generalize hKID:Nd.mk nm' ats' ks'=kid at hx HI hlkid hkid hsl
   obtain ⟨KL,hKL⟩:∃ KL,kdN (nx+1) (ks.take i)=KL:=⟨_,rfl⟩
   have hKLl:KL.length<=1000000:=by
    rw [<- hKL,kdN_len]
    have:=szL_len (ks.take i)
    omega
   obtain ⟨NX,hNX⟩:∃ NX,nx+1+szL (ks.take i)=NX:=⟨_,rfl⟩
   rw [hNX] at hd1
   have hd1':=hd1
   rw [hKL] at hd1'
   obtain ⟨va,ov,kv,he⟩:=hd1'.tell (extE_at M nx _ _) hpE
   simp only at he
   have c3:=he.c3
   have cD1:=k1.cell cD hqD.1 hqD.2
   have cP1:=k1.cell cP hqP.1 hqP.2
   have s1:=k1.size
   have hEd:EB≠DB/\EB≠MB:=by have:=HN.out;omega
   have hEP:PP≠EB:=by have:=HN.out;omega
   have bU:=mal wr (.cells #[.string ⟨nm'.toArray⟩,.slice o' ats'.length cap',.slice ok' ks'.length capk'] 25)
   have u0:=mnew wr #[.string ⟨nm'.toArray⟩,.slice o' ats'.length cap',.slice ok' ks'.length capk'] 25 0 (.string ⟨nm'.toArray⟩) rfl
   have u1:=mnew wr #[.string ⟨nm'.toArray⟩,.slice o' ats'.length cap',.slice ok' ks'.length capk'] 25 1 (.slice o' ats'.length cap') rfl
   have u2:=mnew wr #[.string ⟨nm'.toArray⟩,.slice o' ats'.length cap',.slice ok' ks'.length capk'] 25 2 (.slice ok' ks'.length capk') rfl
   have cPU:=mcell_al (.cells #[.string ⟨nm'.toArray⟩,.slice o' ats'.length cap',.slice ok' ks'.length capk'] 25) cP1
   have cDU:=mcell_al (.cells #[.string ⟨nm'.toArray⟩,.slice o' ats'.length cap',.slice ok' ks'.length capk'] 25) cD1
   have c3U:=mcell_al (.cells #[.string ⟨nm'.toArray⟩,.slice o' ats'.length cap',.slice ok' ks'.length capk'] 25) c3
   have hEBw:=heap_lt he.cells
   have hKBE:wr.heap.size≠EB:=by omega
   have hKBd:wr.heap.size≠DB/\wr.heap.size≠MB:=by omega
   have HC:=fun V' (hv:Below (wr.alloc (.cells #[.string ⟨nm'.toArray⟩,.slice o' ats'.length cap',.slice ok' ks'.length capk'] 25)).heap.size (wr.alloc (.cells #[.string ⟨nm'.toArray⟩,.slice o' ats'.length cap',.slice ok' ks'.length capk'] 25)) V')=>HI _ _ _ nx tg1 V' p1 _ NX (c+1+szL (ks.take i)) hkid hlkid (bR.trans ((mbel bU hv).mono bR.size)) ((hv.cell (cell_lt3 cDU)).trans cDU) ((hv.cell (cell_lt3 cPU)).trans cPU) (hd1.below (mbel bU hv)) ((ht1 PD lPD).trans tD) ((ht1 PP lPP).trans tP) (WalkArith.wf_i64 (by omega)) (by omega)
   have HST:Hid (K2 DB MB W wr/\tg1 N=none/\(∀ x,x<W.heap.size->tg1 x=tg x)/\(∀ j,j<(nx:Int)->p1 j=p j)/\p1 nx=some EB/\ks[i]? = some kid/\nx+1+szL (ks.take i)=NX/\kdN (nx+1) (ks.take i)=KL):=⟨k1,tN1,ht1,hp1,hpE,hx,hNX,hKL⟩
   have HD1:Hid (DocW W0.heap.size tg1 wr DB MB p1 (extE M nx (⟨nm,ats,parent,kdN (nx+1) (ks.take i)⟩ :: elL (nx+1) nx (ks.take i))) NX (c+1+szL (ks.take i))):=hd1
   have HEL:Hid (ElW W0.heap.size tg1 wr nx EB ⟨nm,ats,parent,KL⟩ va (.slice ov KL.length kv)):=he
   have HOW:∀ w4,K2 DB MB (wr.alloc (.cells #[.string ⟨nm'.toArray⟩,.slice o' ats'.length cap',.slice ok' ks'.length capk'] 25)) w4->w4.ownsRow W0.heap.size 3 1 (.slice ov KL.length kv) KL.length (intsV KL):=fun w4 k4=>own_same he.kids fun g hg=>by
    have h1:=he.ktag g hg
    have h2:=(he.kids.lt g hg).2
    exact (k4.block g (by have:=bU.size;omega) (fun e=>by rw [e,hd1.dtag] at h1;cases h1) (fun e=>by rw [e,hd1.mtag] at h1;cases h1)).trans (bU.block g h2)
   clear hd1 hd1' he k1 tN1 ht1 hp1 hpE hx hNX hKL HI hkid hlkid c3 cP1 cD1 cDU
   obtain ⟨i0,hi0,hz0,hz1,hz2⟩:=info_parts intInfo
   go_upto_region 6 with fail
   obtain ⟨U1,hU1⟩:∃ U,wr.alloc (.cells #[.string ⟨nm'.toArray⟩,.slice o' ats'.length cap',.slice ok' ks'.length capk'] 25)=U:=⟨_,rfl⟩
   obtain ⟨KB,hKB⟩:∃ KB,wr.heap.size=KB:=⟨_,rfl⟩
   rw [hU1] at bU u0 u1 u2 cPU c3U HC HOW ⊢
   rw [hKB] at u0 u1 u2 hKBE hKBd ⊢
   have hBU:W0.heap.size<=U1.heap.size:=by have:=bU.size;have:=bR.size;omega
   clear hU1
   go_region_law (first | (refine step_append_lies _ rfl (.tmp 33) (.tmp 38) 72 rfl W0.heap.size 3 i0 (.int .i64 0) 1 8 Tryz.underlying72 hi0 hz0 hz1 hz2 rfl (by decide) (.slice ov KL.length kv) KL.length (intsV KL) rfl (World.ownsRow.alloc ow4 _) ⟨w4.heap.size,0,none⟩ 1 1 [.int .i64 NX] rfl rfl (World.news_of_block H04) (fun u hu=>by simp at hu;rcases hu with rfl;rfl) (by decide) (by rw [maxLen_eq];omega) (by omega) (by simp;omega) _ rfl ?_;intro g7 cap7 w7 ow7 gr7 hat7 hlt7;have e7:=E7 gr7;have e0:=bcell e7 3 _ rfl;have ef:=froz_at e7) | (go_simp;go_wp2_with (first | (go_at_call 34;refine (HC _ (mdrew 1 (Below.refl _ _))).mono ?_;rintro e w4 ⟨rfl,k4,tg2,p2,ht2,hp2,hd2⟩;have c34:=K2.cell k4 (by exact c3U) hEd.1 hEd.2;have c34':=fun o=>mcell_al o c34;have ow4:=HOW _ (by exact K2.of_drew k4);have H04:=mbox w4 #[.int .i64 NX] 3;have l4:W0.heap.size<=w4.heap.size:=(Nat.le_trans hBU k4.size);have E7:=fun {o:Obj} {w7:World}=>kid_block (o:=o) (w7:=w7) HEL.out bU (K2.of_drew k4) hEd))))
   all_goals (
    have FIN:PutR W0 W tg p M DB MB N EB nx c #[.string ⟨nm.toArray⟩,.slice o1 ats.length cap1,.slice (some ⟨b',off',none⟩) ks.length capk] nm ats parent (ks.take (i+1)) (w7.setCell ⟨EB,3,none⟩ (.slice (some ⟨g7,0,none⟩) (KL.length+1) cap7)):=by
     obtain ⟨k1,tN1,ht1,hp1,hpE,hx,hNX,hKL⟩:=HST.out
     have hd1:=HD1.out
     have he:=HEL.out
     clear HC HOW
     subst hNX
     subst hKL
     exact put_step hx k1 hN1 tN1 ht1 hp1 hpE hd1 he bU (K2.of_drew k4) ht2 hp2 HD.out hd2 ow7 gr7 (hat7.imp (fun h=>by rw [h];rfl) (fun h=>by rw [h];rfl))
    have HFIN:Hid (PutR W0 W tg p M DB MB N EB nx c #[.string ⟨nm.toArray⟩,.slice o1 ats.length cap1,.slice (some ⟨b',off',none⟩) ks.length capk] nm ats parent (ks.take (i+1)) (w7.setCell ⟨EB,3,none⟩ (.slice (some ⟨g7,0,none⟩) (KL.length+1) cap7))):=FIN
    clear FIN ow7 gr7 hd2 ht2 hp2 k4 HC HOW
    go_wp2_with fail
    go_roundw
    case rel=>exact ⟨i+1,by omega,by go_num,HFIN.out⟩
    case measure=>simp [intOf];omega)
  ·obtain rfl:i=ks.length:=by omega
   have hge:¬ (ks.length:Int)<(ks.length:Int):=by omega
   rw [List.take_length] at hd1
   have HD1:Hid (DocW W0.heap.size tg1 wr DB MB p1 (extE M nx (elN nx parent (.mk nm ats ks))) (nx+szN (.mk nm ats ks)) (c+szN (.mk nm ats ks))):=(by
    rw [elN,hsz,show nx+(szL ks+1)=nx+1+szL ks from by omega,show c+(szL ks+1)=c+1+szL ks from by omega]
    exact hd1:DocW W0.heap.size tg1 wr DB MB p1 (extE M nx (elN nx parent (.mk nm ats ks))) (nx+szN (.mk nm ats ks)) (c+szN (.mk nm ats ks)))
   clear hd1
   go_wp2_with fail
   go_ret
   exact ⟨rfl,k1,tg1,ht1,p1,hp1,HD1.out⟩
end
section
open Go.RowKit
set_option maxHeartbeats 4000000
set_option maxRecDepth 20000
def tag0 (DB MB:Nat):Tags:=fun x=>if x=DB then some .doc else if x=MB then some .map else none
theorem DocW.made {B:Nat} {w:World} {DB MB:Nat} (hd:w.heap[DB]? = some (.cells #[.map (some MB),.int .i64 0] 92)) (hm:PMap Tryz.prog 3 w MB (fun _=>none) 0 0) (hne:MB≠DB) (h1:B<=DB) (h2:B<=MB):DocW B (tag0 DB MB) w DB MB (fun _=>none) (fun _=>none) 0 0 where
 doc:=hd
 dtag:=by unfold tag0;rw [if_pos rfl]
 map:=hm
 mtag:=by unfold tag0;rw [if_neg hne,if_pos rfl]
 els:=fun _ _ h=>by cases h
 non:=fun _ _=>rfl
 low:=fun b t ht=>by
  unfold tag0 at ht
  split at ht
  ·rename_i e;subst e;exact ⟨h1,heap_lt hd⟩
  ·split at ht
   ·rename_i e;subst e;exact ⟨h2,hm.lt⟩
   ·cases ht
 dom:=fun _ _ h=>by cases h
 wf:=fun _ _ h=>by cases h
 few:=by omega
 tnx:=fun b i h=>by
  unfold tag0 at h
  split at h
  ·simp at h
  ·split at h <;> simp at h
def NewR (E:Nat->Addr) (B:Nat) (n:Nd) (e:Ending) (w:World):Prop:=
 ((ckN n 1 0).1≠0/\∃ pb,e=.returned (.tuple #[.pointer none,.iface 143 (.pointer (some ⟨pb,0,none⟩))])/\w.cell? ⟨pb,0,none⟩=some (.int .i64 (ckN n 1 0).2)/\w.cell? ⟨pb,1,none⟩=some (.iface 409 (.pointer (some (E (ckN n 1 0).1)))))\/
 ((ckN n 1 0).1=0/\∃ DB MB tg p,e=.returned (.tuple #[.pointer (some ⟨DB,0,none⟩),.nilIface])/\DocW B tg w DB MB p (extE (fun _=>none) 0 (elN 0 (-1) n)) (szN n) (szN n))
attribute [local go_sem] run_store_func'
theorem New_any (E:Nat->Addr) (n:Nd) (c0 c1 c2:Value) (W:World) (hE:CE E W) (hn:NdC W c0 c1 c2 n) (hs:szN n<=1000000) :
  Calls Tryz.prog 10 #[.agg #[c0,c1,c2]] W fun e w'=>Below W.heap.size W w'/\NewR E W.heap.size n e w':=by
 obtain ⟨sa,oa,na,ka,oa',na',ka',rfl,rfl,rfl⟩:∃ (sa:ByteArray) (oa:Option Addr) (na ka:Nat) (oa':Option Addr) (na' ka':Nat),c0=.string sa/\c1=.slice oa na ka/\c2=.slice oa' na' ka':=by
  obtain ⟨nm,ats,ks⟩:=n
  unfold NdC at hn
  obtain ⟨rfl, -,⟨o,cap,rfl, -⟩,ok,capk,rfl, -⟩:=hn
  exact ⟨_,_,_,_,_,_,_,rfl,rfl,rfl⟩
 have A0:NB W.heap.size (.string sa) (.slice oa na ka) (.slice oa' na' ka') (W.alloc (.cells #[.string sa,.slice oa na ka,.slice oa' na' ka'] 25)):=mbox W #[.string sa,.slice oa na ka,.slice oa' na' ka'] 25
 have b0:=mal W (.cells #[.string sa,.slice oa na ka,.slice oa' na' ka'] 25)
 go_enter Tryz.func10,Tryz.ntmps10
 go_upto_region 1 with fail
 obtain ⟨V,hV⟩:∃ V,W.alloc (.cells #[.string sa,.slice oa na ka,.slice oa' na' ka'] 25)=V:=⟨_,rfl⟩
 obtain ⟨N,hN⟩:∃ N,W.heap.size=N:=⟨_,rfl⟩
 rw [hV] at A0 b0 ⊢
 rw [hN] at A0 ⊢
 have HN:Hid (W.heap.size=N):=hN
 clear hV hN
 have x0:=A0.c0
 have x1:=A0.c1
 have x2:=A0.c2
 have CK:=Check_nd E n _ _ _ V (hE.below b0) (NdC.below b0 n hn)
 by_cases hc:(ckN n 1 0).1=0
 ·have CK1:=CK.mono (R':=fun e w'=>e=.returned .nilIface/\Below V.heap.size V w') (fun e w' h=>by
   refine ⟨?_,h.1⟩
   rcases h.2 with h2 | h2
   ·exact h2.2
   ·exact absurd hc h2.1)
  have HC:Hid ((ckN n 1 0).1=0):=hc
  clear CK hc
  go_upto_region 4 with (go_at_call 33;refine CK1.mono ?_;rintro e w1 ⟨rfl,b1⟩)
  have B1:=mbel b0 b1
  have hsz1:=B1.size
  have hmm:=@run_makeMap Tryz.prog
  go_upto_region 5 with fail
  have U0:∃ U MB,((w1.alloc (.map #[] 0)).alloc (.cells #[.map (some w1.heap.size),.int .i64 0] 92)).alloc (.cells #[.pointer (some ⟨w1.heap.size+1,0,none⟩)] 29)=U/\w1.heap.size=MB/\U.heap[MB+1]? = some (.cells #[.map (some MB),.int .i64 0] 92)/\PMap Tryz.prog 3 U MB (fun _=>none) 0 0/\U.cell? ⟨MB+1+1,0,none⟩=some (.pointer (some ⟨MB+1,0,none⟩))/\U.heap.size=MB+1+1+1/\Below w1.heap.size w1 U:=by
   refine ⟨_,_,rfl,rfl,?_,?_,?_,by simp,?_⟩
   ·have h1:=mbox (w1.alloc (.map #[] 0)) #[.map (some w1.heap.size),.int .i64 0] 92
    have h2:=(mal ((w1.alloc (.map #[] 0)).alloc (.cells #[.map (some w1.heap.size),.int .i64 0] 92)) (.cells #[.pointer (some ⟨w1.heap.size+1,0,none⟩)] 29)).block _ (heap_lt h1)
    simp only [World.size_alloc] at h1 h2
    exact h2.trans h1
   ·exact ((PMap.made w1 Tryz.prog 3).kept (World.grownBy_alloc _ _ none) (by simp)).kept (World.grownBy_alloc _ _ none) (by simp)
   ·have h1:=mnew ((w1.alloc (.map #[] 0)).alloc (.cells #[.map (some w1.heap.size),.int .i64 0] 92)) #[.pointer (some ⟨w1.heap.size+1,0,none⟩)] 29 0 _ rfl
    simp only [World.size_alloc] at h1
    exact h1
   ·exact mbel (mbel (mal _ _) (mal _ _)) (mal _ _)
  obtain ⟨U,MB,hU,hMB,dU,pU,cDU,sU,bU⟩:=U0
  rw [hU,hMB]
  have hMN:N<MB:=by have:=HN.out;have h2:=heap_lt A0;have:=b1.size;omega
  clear hU
  have BU:=mbel B1 bU
  have F0:=mnew U #[.func (.func 34) #[] #[.pointer (some ⟨MB+1+1,0,none⟩),.pointer (some ⟨U.heap.size,0,none⟩)]] 93 0 (.func (.func 34) #[] #[.pointer (some ⟨MB+1+1,0,none⟩),.pointer (some ⟨U.heap.size,0,none⟩)]) rfl
  have bF:=mal U (.cells #[.func (.func 34) #[] #[.pointer (some ⟨MB+1+1,0,none⟩),.pointer (some ⟨U.heap.size,0,none⟩)]] 93)
  have AU:=((mbel b1 bU).block N (heap_lt A0)).trans A0
  have D0:=DocW.made (B:=W.heap.size) dU pU (by omega) (by have:=HN.out;omega) (by have:=HN.out;omega)
  go_upto_region 7 with fail
  obtain ⟨X,hX⟩:∃ X,U.alloc (.cells #[.func (.func 34) #[] #[.pointer (some ⟨MB+1+1,0,none⟩),.pointer (some ⟨U.heap.size,0,none⟩)]] 93)=X:=⟨_,rfl⟩
  obtain ⟨PP,hPQ⟩:∃ PP,MB+1+1+1=PP:=⟨_,rfl⟩
  have hPP:U.heap.size=PP:=sU.trans hPQ
  rw [hPP] at hX F0 bF
  rw [hPQ,hX]
  rw [hX] at F0 bF
  have D1:=D0.turn (w':=X) (fun g t ht=>bF.block g (by rw [<- hPP];exact (D0.low g t ht).2)) bF.size
  have bX:Below U.heap.size U X:=by rw [hPP];exact bF
  have BX:=mbel BU bX
  have AX:=(bX.block N (heap_lt AU)).trans AU
  have cDX:=(bX.cell (cell_lt3 cDU)).trans cDU
  have HP:=put_any W (MB+1+1) PP (MB+1) MB n _ _ _ (-1) _ X _ _ 0 0 hn (lowN_of n 1 0 HC.out) BX cDX F0 D1 (by unfold tag0;rw [if_neg (by omega),if_neg (by omega)]) (by unfold tag0;rw [if_neg (by omega),if_neg (by omega)]) (by decide) (by omega)
  rw [Nat.zero_add] at HP
  have x0:=NB.c0 AX
  have x1:=NB.c1 AX
  have x2:=NB.c2 AX
  have hMB1:W.heap.size<=MB:=by have:=HN.out;omega
  clear hX D0 D1 AU
  go_wp2_with (go_at_call 34;refine HP.mono ?_;rintro e w5 ⟨rfl,k5,tg5,p5, -, -,d5⟩;have cD5:=k5.cell cDX (by omega) (by omega))
  go_ret2
  exact ⟨BX.trans ((k5.below (m:=W.heap.size) (by omega) hMB1 BX.size)),.inr ⟨HC.out,MB+1,MB,tg5,p5,rfl,d5⟩⟩
 ·have CK1:=CK.mono (R':=fun e w'=>(∃ pb,e=.returned (.iface 143 (.pointer (some ⟨pb,0,none⟩)))/\w'.cell? ⟨pb,0,none⟩=some (.int .i64 (ckN n 1 0).2)/\w'.cell? ⟨pb,1,none⟩=some (.iface 409 (.pointer (some (E (ckN n 1 0).1)))))/\Below V.heap.size V w') (fun e w' h=>by
   refine ⟨?_,h.1⟩
   rcases h.2 with h2 | ⟨-,pb, -,h3⟩
   ·exact absurd h2.1 hc
   ·exact ⟨pb,h3⟩)
  clear CK
  go_wp2_with (go_at_call 33;refine CK1.mono ?_;rintro e w1 ⟨⟨pb,rfl,h3,h4⟩,b1⟩)
  go_ret2
  exact ⟨mbel b0 b1,.inl ⟨hc,pb,rfl,h3,h4⟩⟩
end
section
open Go.RowKit
set_option maxHeartbeats 4000000
set_option maxRecDepth 20000
theorem own_len {w:World} {B k n:Nat} {e:TypeId} {v:Value} {xs:List Value} (h:w.ownsRow B e k v n xs):n<=9223372036854775807:=by
  obtain ⟨o,cap, -,h1,h2, -⟩:=row_slice h
  rw [maxLen_eq] at h2
  omega
theorem flat_take_le {α β:Type} (g:α->List β) (l:List α) (k:Nat):((l.take k).flatMap g).length<=(l.flatMap g).length:=by
  have h:=congrArg (fun x=>(List.flatMap g x).length) (List.take_append_drop k l)
  simp only [List.flatMap_append,List.length_append] at h
  omega
theorem walk_from {B:Nat} {tg:Tags} {Wd:World} {DB MB:Nat} {p:Int->Option Nat} {M:Dm} {nx c:Nat} (hd:DocW B tg Wd DB MB p M nx c) (lb:Array Value) (I:List (Int × Int)->World->Prop) (hI:∀ done W,I done W->(∀ b t,tg b=some t->W.heap[b]? = Wd.heap[b]?)/\Wd.heap.size<=W.heap.size)
    (hcall:∀ done W i d,I done W->done.length<1000000->Calls Tryz.prog 75 (#[.int .i64 i,.int .i64 d]++lb) W fun e w'=>e=.returned (.tuple #[])/\I (done++[(i,d)]) w') :
    ∀ (f:Nat) (n d:Int) (done:List (Int × Int)) (W:World),Dp M f n->Wf64 n->0<=d->d+f<=1000000->done.length+(pre M f n d).length<=1000000->I done W->
    Calls Tryz.prog 74 #[.pointer (some ⟨DB,0,none⟩),.int .i64 n,.int .i64 d,.func (.func 75) #[] lb] W fun e w'=>e=.returned (.tuple #[])/\I (done++pre M f n d) w'
  | 0,_,_,_,_,hp,_,_,_,_,_=>hp.elim
  | f+1,n,d,done,W,hp,hn,hd0,hdf,hlen,hi=>by
    have IH:=walk_from hd lb I hI hcall f
    have hs:=hI done W hi
    have hw:=hd.turn hs.1 hs.2
    have d0:=hw.d0
    cases hm:M n with
    | none=>
      have hpn:=hd.non n hm
      have hpre:pre M (f+1) n d=[]:=by rw [pre,hm]
      rw [hpre,List.append_nil]
      go_enter Tryz.func74,Tryz.ntmps74
      go_wp2_with (at_lookup;refine look_no _ rfl _ _ 90 rfl Tryz.underlying3 Tryz.underlying90 (zeroEl _) rfl hw.map n rfl hn hpn ?_)
      refine bodyPost_ret (v:=.tuple #[]) (by simp [results,Tryz.results74]) rfl ⟨rfl,hi⟩
    | some e=>
      have hpre:pre M (f+1) n d=(n,d) :: e.kids.flatMap (fun k=>pre M f k (d+1)):=by rw [pre,hm]
      rw [hpre] at hlen ⊢
      rw [List.length_cons] at hlen
      obtain ⟨b,va,vk,hpn,he⟩:=hd.els n e hm
      have he1:=he.turn (tg':=tg) (w':=W) fun g t ht _=>⟨ht,hs.1 g t ht⟩
      have HCL:=hcall done W n d hi (by omega)
      obtain ⟨ov,kv,hvk⟩:=own_slice he.kids
      have HKD:Hid (∀ k ∈ e.kids,Dp M f k/\Wf64 k):=(fun k hk=>⟨hp e hm k hk,(hd.wf n e hm).2 k hk⟩:∀ k ∈ e.kids,Dp M f k/\Wf64 k)
      have HHI:Hid (∀ done W,I done W->(∀ b t,tg b=some t->W.heap[b]? = Wd.heap[b]?)/\Wd.heap.size<=W.heap.size):=hI
      have HIH:Hid (∀ (n d:Int) (done:List (Int × Int)) (W:World),Dp M f n->Wf64 n->0<=d->d+f<=1000000->done.length+(pre M f n d).length<=1000000->I done W->Calls Tryz.prog 74 #[.pointer (some ⟨DB,0,none⟩),.int .i64 n,.int .i64 d,.func (.func 75) #[] lb] W fun e w'=>e=.returned (.tuple #[])/\I (done++pre M f n d) w'):=IH
      have hkl:e.kids.length<=9223372036854775807:=own_len he.kids
      clear hI IH hcall hi hp
      go_enter Tryz.func74,Tryz.ntmps74
      go_upto_region 3 with (first | (at_lookup;refine look_yes _ rfl _ _ 90 rfl Tryz.underlying3 Tryz.underlying90 (zeroEl _) rfl hw.map n rfl hn b hpn ?_) | (go_at_call 75;refine HCL.mono ?_;rintro r w1 ⟨rfl,hi1⟩))
      subst hvk
      have x3:=World.cell?_of_block ((HHI.out _ _ hi1).1 b _ he.tag) |>.trans he.c3
      have hd1:d<=999999:=by omega
      have HHE:Hid (ElW B tg Wd n b e va (.slice ov e.kids.length kv)):=he
      have HI1:Hid (I (done++[(n,d)]) w1):=hi1
      clear he he1 hi1 hw d0 hs HCL
      go_wp2_with fail
      go_loopw [32] (fun y wr=>∃ k:Nat,k<=e.kids.length/\y=.int .i64 k/\I (done++((n,d) :: (e.kids.take k).flatMap (fun i=>pre M f i (d+1)))) wr) (fun y _=>e.kids.length - (intOf y).toNat)
      case atStart=>exact ⟨0,Nat.zero_le _,rfl,HI1.out⟩
      case round=>
        obtain ⟨k,hk,rfl,hi2⟩:=hrel
        by_cases hlt:k<e.kids.length
        · have hlt':(k:Int)<(e.kids.length:Int):=by omega
          obtain ⟨kid,hx, -⟩:=drop_at hlt
          obtain ⟨g,hg,hc⟩:=row_get HHE.out.kids k _ (intsV_get hx)
          have hov:ov=some ⟨g,0,none⟩:=by
            obtain ⟨o',cap',h1, -, -, -,h2⟩:=row_slice HHE.out.kids
            cases h1
            exact h2 g hg
          subst hov
          have hcw:=World.cell?_of_block ((HHI.out _ _ hi2).1 g _ (HHE.out.ktag g hg)) |>.trans hc
          have hkd:=HKD.out kid (List.mem_of_getElem? hx)
          have htk:(e.kids.take (k+1)).flatMap (fun i=>pre M f i (d+1))=(e.kids.take k).flatMap (fun i=>pre M f i (d+1))++pre M f kid (d+1):=by
            rw [List.take_add_one,hx]
            simp
          have hle:=flat_take_le (fun i=>pre M f i (d+1)) e.kids (k+1)
          rw [htk,List.length_append] at hle
          have HC:=HIH.out kid (d+1) _ wr hkd.1 hkd.2 (by omega) (by omega) (by rw [List.length_append,List.length_cons];omega) hi2
          rw [List.append_assoc,List.cons_append,<- htk] at HC
          clear hi2 hc hg hx htk hle
          go_wp2_with (go_at_call 74;refine HC.mono ?_;rintro r w2 ⟨rfl,hi3⟩)
          go_roundw
          case rel=>exact ⟨k+1,by omega,by go_num,hi3⟩
          case measure=>simp [intOf];omega
        · obtain rfl:k=e.kids.length:=by omega
          have hge:¬ (e.kids.length:Int)<(e.kids.length:Int):=by omega
          rw [List.take_length] at hi2
          go_wp2_with fail
          refine bodyPost_end (results_none rfl _ _ _) rfl ⟨rfl,hi2⟩
end
end Go.Proofs.YtgphclgmmocdhaaGreatDoor

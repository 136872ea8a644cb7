/-
  Parts of the proof.
-/
import Derived.Test.YtjfiehbcamfdfaaGreatDoorQy33
import Derived.Test.YtjfiehbcamfdfaaGreatDoorQy31
import Derived.Test.YtjfiehbcamfdfaaGreatDoorQy32
import Derived.Test.YtjfiehbcamfdfaaGreatDoorQy36
namespace Go.Proofs.YtjfiehbcamfdfaaGreatDoor
open Go.Proofs.Tryz
section
open Go.Sort
def nP {α:Type}(key:α->Int)(l:List α):List α:=(List.range 1000).flatMap (fun(k:Nat)=>l.filter (fun x=>key x==(k:Int)))
theorem Sd {α β:Type}(key:β->Int)(g:α->β)(l:List α):(nP (fun x=>key (g x)) l).map g=nP key (l.map g):=by
 unfold nP;rw[List.map_flatMap];congr 1;funext k;rw[List.filter_map];rfl
theorem Kc {α:Type}{R:α->α->Prop}(ht:∀x y z,R x y->R y z->R x z)(hi:∀x,¬R x x):∀{l m:List α},l.Pairwise R->m.Pairwise R->(∀x,x∈l↔x∈m)->l=m
 |[],[],_,_,_=>rfl
 |[],y::m,_,_,h=>absurd ((h y).2 (by simp)) (by simp)
 |x::l,[],_,_,h=>absurd ((h x).1 (by simp)) (by simp)
 |x::l,y::m,h1,h2,h=>by
  rw[List.pairwise_cons] at h1 h2;have hxy:x=y:=by
   rcases List.mem_cons.1 ((h x).1 (by simp)) with e|e
   ·exact e
   ·rcases List.mem_cons.1 ((h y).2 (by simp)) with e'|e'
    ·exact e'.symm
    ·exact absurd (ht _ _ _ (h1.1 y e') (h2.1 x e)) (hi x)
  subst hxy;congr 1;refine Kc ht hi h1.2 h2.2 fun z=>⟨fun hz=>?_,fun hz=>?_⟩
  ·rcases List.mem_cons.1 ((h z).1 (by simp[hz])) with e|e
   ·subst e;exact absurd (h1.1 z hz) (hi z)
   ·exact e
  ·rcases List.mem_cons.1 ((h z).2 (by simp[hz])) with e|e
   ·subst e;exact absurd (h2.1 z hz) (hi z)
   ·exact e
section
variable {α:Type}[Inhabited α]{key:α->Int}{tag:α->Nat}
theorem rV {d:Array α}{x:α}:x∈d.toList↔InR d 0 d.size x:=by
 constructor
 ·intro h;obtain⟨i,hi,e⟩:=List.getElem_of_mem h;have hi':i<d.size:=by simpa using hi
  exact⟨i,Nat.zero_le _,hi',by rw[getElem!_pos d i hi'];simpa using e⟩
 ·rintro⟨i, -,hi,rfl⟩;rw[getElem!_pos d i hi];simp
theorem X7 {R:α->α->Prop}{d:Array α}(h:∀i j,i<j->j<d.size->R d[i]! d[j]!):d.toList.Pairwise R:=by
 rw[List.pairwise_iff_getElem];intro i j hi hj hij;have hi':i<d.size:=by simpa using hi
 have hj':j<d.size:=by simpa using hj
 have:=h i j hij hj';rw[getElem!_pos d i hi',getElem!_pos d j hj'] at this;simpa using this
omit [Inhabited α] in
theorem X8 {l:List α}(h:l.Pairwise (fun x y=>tag x<tag y)):(nP key l).Pairwise (xe key tag):=by
 unfold nP;rw[List.pairwise_flatMap];refine⟨fun k _=>?_,?_⟩
 ·have h1:=List.Pairwise.filter (fun x=>key x==(k:Int)) h;refine List.Pairwise.imp_of_mem (fun{a b} ha hb hr=>?_) h1;have e1:=(List.mem_filter.1 ha).2;have e2:=(List.mem_filter.1 hb).2;simp only[beq_iff_eq] at e1 e2;exact .inr ⟨e1.trans e2.symm,hr⟩
 ·refine List.Pairwise.imp (fun{a b} hab x hx y hy=>?_) List.pairwise_lt_range;have e1:=(List.mem_filter.1 hx).2;have e2:=(List.mem_filter.1 hy).2;simp only[beq_iff_eq] at e1 e2;exact .inl (by omega)
omit [Inhabited α] in
theorem Sg {l:List α}(h:∀x∈l,0<=key x/\key x<1000)(x:α):x∈nP key l↔x∈l:=by
 unfold nP;simp only[List.mem_flatMap,List.mem_range,List.mem_filter,beq_iff_eq];constructor
 ·rintro⟨k, -,h1, -⟩;exact h1
 ·intro hx;obtain⟨h1,h2⟩:=h x hx;exact⟨(key x).toNat,by omega,hx,by omega⟩
theorem Si {d e:Array α}(hm:qj d e 0 d.size)(hs:GJ key tag e 0 d.size)(ht:∀i,i<d.size->tag d[i]! =i)(hk:∀x∈d.toList,0<=key x/\key x<1000):e.toList=nP key d.toList:=by
 refine Kc (R:=xe key tag) (fun _ _ _ h h'=>h.trans h') (fun x h=>by unfold xe at h;omega) (X7 fun i j h1 h2=>hs i j (Nat.zero_le _) h1 (by rw[<- hm.sz];exact h2)) (X8 (X7 fun i j h1 h2=>?_)) fun x=>?_
 ·rw[ht i (by omega),ht j h2];exact h1
 ·rw[Sg hk,rV,rV,hm.sz];exact hm.same x
end
end
section
open Go.RowKit Go.Shelf Go.Sort
theorem a4p (s:Bs):0<=Em s/\Em s<1000:=by
 unfold Em;split
 ·split
  ·next h=>omega
  ·omega
 ·omega
def Dj (l:List Pc):Prop:=∀x∈l,0<=x.lv/\x.lv<1000
theorem Pp {α:Type}(g:Nat×List Pc->α->Except Ft (Nat×List Pc))(hg:∀s x s',g s x=.ok s'->Dj s.2->Dj s'.2):∀(l:List α) (s s':Nat×List Pc),l.foldlM g s=.ok s'->Dj s.2->Dj s'.2
 |[],s,s',h,h0=>by cases h;exact h0
 |x::l,s,s',h,h0=>by
  rw[List.foldlM_cons] at h;cases hx:g s x with
  |error e=>rw[hx] at h;cases h
  |ok t=>
   rw[hx] at h;exact Pp g hg l t s' h (hg s x t hx h0)
theorem Gm (M:Dm)(l:List Rl):∀(f:Nat) (n:Int) (path:List Int) (m:Mv) (st s':Nat×List Pc),dm M l f n path m st=.ok s'->Dj st.2->Dj s'.2
 |0,n,path,m,st,s',h,_=>by
  unfold dm at h;split at h<;>cases h
 |f+1,n,path,m,st,s',h,h0=>by
  unfold dm at h;split at h
  ·cases h
  split at h
  ·cases h
  split at h
  ·cases h;exact h0
  have PC:∀(m':Mv) (x:Except Nat (List Qt)),gK M l n m' x (st.1+1,st.2)=.ok s'->Dj s'.2:=fun m' x h=>by
   unfold gK at h;split at h
   ·cases h
   ·split at h
    ·cases h
    ·split at h
     ·cases h;exact h0
     ·cases h;intro y hy;rcases List.mem_append.1 hy with hy|hy
      ·exact h0 y hy
      ·simp at hy;subst hy;exact a4p _
  split at h
  ·cases h
  ·split at h
   ·exact PC _ _ h
   ·split at h
    ·exact PC _ _ h
    ·split at h
     ·exact Pp _ (fun s x s' h=>Gm M l f x _ _ s s' h) _ (st.1+1,st.2) s' h h0
     ·split at h
      ·cases h
      ·exact Gm M l f _ _ _ (st.1+1,st.2) s' h h0
theorem Ke {α:Type}{k1 k2:α->Int}{l:List α}(h:∀x∈l,k1 x=k2 x):nP k1 l=nP k2 l:=by
 unfold nP;congr 1;funext k;exact List.filter_congr fun x hx=>by rw[h x hx]
instance:Inhabited bZ:=⟨⟨0,none,0,[],[],[],0⟩⟩
def a0w (i:Nat)(x:bZ):S5:=⟨x.nd,x.o,x.pts.length,x.cap,⟨x.fill.toArray⟩,⟨x.rule.toArray⟩,x.lv,i⟩
def d5 (ps:List bZ):Array S5:=(ps.mapIdx a0w).toArray
theorem zf (ps:List bZ):(d5 ps).size=ps.length:=by simp[d5]
theorem xB (ps:List bZ)(i:Nat)(hi:i<ps.length):(d5 ps)[i]! =a0w i ps[i]:=by
 rw[getElem!_pos _ i (by rw[zf];exact hi)];simp[d5]
theorem C9:∀(ps:List bZ) (i c:Nat) (hi:i<ps.length),c<5->(cellsS ps)[i*5+c]? =([aa ps[i].nd,BH ps[i],bV ps[i].fill,bV ps[i].rule,aa ps[i].lv]:List Value)[c]?
 |[],i,c,hi,_=>absurd hi (by simp)
 |x::ps,0,c,_,hc=>by
  rw[Nat.zero_mul,Nat.zero_add];unfold cellsS
  match c,hc with
  |0,_=>rfl
  |1,_=>rfl
  |2,_=>rfl
  |3,_=>rfl
  |4,_=>rfl
 |x::ps,i+1,c,hi,hc=>by
  have:=C9 ps i c (by simpa using hi) hc;rw[show(i+1)*5+c=i*5+c+1+1+1+1+1 from by omega];unfold cellsS;simpa using this
theorem Ca (d:Array S5)(ps:List bZ)(hs:d.size=ps.length)(h:∀i (hi:i<ps.length),oO d[i]! =[aa ps[i].nd,BH ps[i],bV ps[i].fill,bV ps[i].rule,aa ps[i].lv]):(flatK oO 5 d).toList=cellsS ps:=by
 apply List.ext_getElem?;intro t;by_cases ht:t<ps.length*5
 ·have h1:t<(flatK oO 5 d).size:=by rw[size_flatK,hs];exact ht
  have hi:t/5<ps.length:=by omega
  have hc:t % 5<5:=Nat.mod_lt _ (by omega);have h2:=get_flatK oO 5 d t (by rw[hs];exact ht);rw[getElem!_pos _ t h1,h (t/5) hi] at h2;have h3:=C9 ps (t/5) (t % 5) hi hc;rw[show t/5*5+t % 5=t from by omega] at h3;rw[h3,Array.getElem?_toList,Array.getElem?_eq_getElem h1,h2];rw[getElem!_pos _ (t % 5) (by simpa using hc)];exact(List.getElem?_eq_getElem _).symm
 ·rw[List.getElem?_eq_none (by simp[hs];omega),List.getElem?_eq_none (by rw[uz];omega)]
theorem X9 (F cur:Array Value)(h:F.size<=cur.size):(putCells id 0 F cur).toList.take F.size=F.toList:=by
 apply List.ext_getElem?;intro k;rw[List.getElem?_take];split
 ·next hk=>
  have hkc:k<cur.size:=by omega
  unfold putCells;rw[Array.getElem?_toList,Array.getElem?_mapIdx,Array.getElem?_eq_getElem hkc,Array.getElem?_toList,Array.getElem?_eq_getElem hk];simp only[Option.map_some,Nat.zero_le,true_and,Nat.zero_add,Nat.sub_zero,id_eq,if_pos hk];rw[getElem!_pos _ k hk]
 ·next hk=>rw[List.getElem?_eq_none (by simp;omega)]
theorem Gn {base:Nat}{W:World}{g cap:Nat}{cur:Array Value}(ps:List bZ)(hl:ps.length<=1000)(hlv:∀x∈ps,0<=x.lv/\x.lv<1000)(hb:base<=g)(hc:W.heap[g]? =some (.cells cur 138))(h6:ps.length<=cap)(h7:cap<=maxLen)(h8:cur.size=cap*5)(h9:cur.toList.take (ps.length*5)=cellsS ps):
  ak 53 #[.slice (some ⟨g,0,none⟩) ps.length cap,mH] W fun e w'=>e=.returned (.tuple #[])/\∃qs:List bZ,qs.map bZ.pc=tH (ps.map bZ.pc)/\qs.length=ps.length/\(∀x∈qs,x∈ps)/\w'.ownsRow base 138 5 (.slice (some ⟨g,0,none⟩) ps.length cap) qs.length (cellsS qs)/\W.grownBy w' (some g):=by
 have hfl:(flatK oO 5 (d5 ps)).toList=cellsS ps:=Ca _ ps (zf ps) (fun i hi=>by rw[xB ps i hi];rfl);have hH:HoldsK oO 5 W g 0 (d5 ps):=fun j hj=>by
  refine⟨?_,dF hc _⟩;rw[Nat.zero_add];refine aA hc j _ ?_;have hj':j<ps.length*5:=by rw[size_flatK,zf] at hj;exact hj
  have h1:(cur.toList.take (ps.length*5))[j]? =(flatK oO 5 (d5 ps)).toList[j]? :=by rw[h9,hfl]
  rw[List.getElem?_take,if_pos hj',Array.getElem?_toList,Array.getElem?_toList,Array.getElem?_eq_getElem hj] at h1;rw[h1,getElem!_pos _ j hj];rfl
 have hsz:=zf ps;have SS:=Bc (aN hc) hH (by rw[hsz];exact hl) (fun i hi=>by rw[xB ps i (by rw[<- hsz];exact hi)];rfl) cap;rw[hsz] at SS;refine SS.mono fun e w' hr=>?_;obtain⟨he,d',hp,m,os,hw⟩:=hr;refine⟨he,?_⟩;have hz':d'.size=ps.length:=hp.mv.sz.trans hsz;have hmem:∀x,InR d' 0 ps.length x->∃(j:Nat) (hj:j<ps.length),x=a0w j ps[j]:=fun x hx=>by
  obtain⟨j, -,hj,hjx⟩:=(hp.mv.same x).1 hx;exact⟨j,hj,by rw[<- hjx,xB ps j hj]⟩
 have hback:∀x∈d'.toList,∃(hj:x.tag<ps.length),x=a0w x.tag ps[x.tag]:=fun x hx=>by
  have h1:=rV.1 hx;rw[hz'] at h1;obtain⟨j,hj,rfl⟩:=hmem x h1;exact⟨hj,rfl⟩
 have hqs:(d'.toList.map fun x=>ps[x.tag]!).length=ps.length:=by rw[List.length_map,Array.length_toList,hz']
 refine⟨d'.toList.map fun x=>ps[x.tag]!,?_,hqs,?_,?_,?_⟩
 ·have hm:=hp.mv;have hs:=hp.s;rw[<- hsz] at hm hs;have hst:=Si hm hs (fun i hi=>by rw[xB ps i (by rw[<- hsz];exact hi)];rfl) (fun x hx=>by
   obtain⟨j, -,hj,rfl⟩:=rV.1 hx;rw[hsz] at hj;rw[xB ps j hj];exact hlv _ (List.getElem_mem hj))
  rw[hst,List.map_map];have hk:∀x∈(d5 ps).toList,S5.lv x=Pc.lv ((bZ.pc∘fun x:S5=>ps[x.tag]!) x):=fun x hx=>by
   obtain⟨j, -,hj,rfl⟩:=rV.1 hx;rw[hsz] at hj;rw[xB ps j hj];show ps[j].lv=(ps[j]!).lv;rw[getElem!_pos ps j hj]
  rw[Ke hk,Sd Pc.lv];show nP Pc.lv _=nP Pc.lv _;congr 1;apply List.ext_getElem?;intro i;rw[List.getElem?_map,List.getElem?_map];unfold d5;rw[List.toList_toArray,List.getElem?_mapIdx];cases hx:ps[i]? with
  |none=>rfl
  |some x=>
   obtain⟨hi,rfl⟩:=List.getElem?_eq_some_iff.1 hx;show some (bZ.pc ps[i]!)=some (bZ.pc ps[i]);rw[getElem!_pos ps i hi]
 ·intro x hx;obtain⟨y,hy,rfl⟩:=List.mem_map.1 hx;obtain⟨hj, -⟩:=hback y hy;show ps[y.tag]!∈ps;rw[getElem!_pos ps _ hj];exact List.getElem_mem hj
 ·have acO:(flatK oO 5 d').toList=cellsS (d'.toList.map fun x=>ps[x.tag]!):=Ca d' _ (by rw[hqs,hz']) (fun i hi=>by
   have hi':i<d'.size:=by rw[hqs] at hi;rw[hz'];exact hi
   obtain⟨hj,hx⟩:=hback d'[i]! (rV.2 ⟨i,Nat.zero_le _,hi',rfl⟩);have hg:(d'.toList.map fun x=>ps[x.tag]!)[i]=ps[d'[i]!.tag]:=by
    rw[List.getElem_map];have h2:d'.toList[i]'(by simpa using hi')=d'[i]! :=by rw[getElem!_pos d' i hi'];simp
    rw[h2];exact getElem!_pos ps _ hj
   rw[hg]
   conv=>lhs;rw[hx]
   rfl)
  have hgr:W.heap.size=(putRowK oO 5 (Sort.ahead W m) g 0 d').heap.size:=by
   unfold putRowK;rw[size_putRow];rfl
  have hat:w'.heap[g]? =some (.cells (putCells id 0 (flatK oO 5 d') cur) 138):=by
   rw[hw];unfold sortWorldK grow;rw[Array.getElem?_append_left (by rw[<- hgr];exact aN hc)];unfold putRowK putRow mapBlock;rw[Array.getElem?_modify,if_pos rfl];show Option.map _ (W.heap[g]?)=_;rw[hc];rfl
  have hF:(flatK oO 5 d').size=ps.length*5:=by rw[size_flatK,hz']
  rw[hqs];refine⟨by rw[uz,hqs],.inr ⟨g,cap,_,rfl,hb,hat,h6,h7,?_,?_⟩⟩
  ·unfold putCells;rw[Array.size_mapIdx];exact h8
  ·rw[<- acO,<- hF];exact X9 _ cur (by rw[hF,h8];omega)
 ·have hgr:W.heap.size=(putRowK oO 5 (Sort.ahead W m) g 0 d').heap.size:=by
   unfold putRowK;rw[size_putRow];rfl
  rw[hw];refine⟨rfl,rfl,rfl,?_,fun x hx hne=>?_⟩
  ·unfold sortWorldK grow;show W.heap.size<=((putRowK oO 5 (Sort.ahead W m) g 0 d').heap++os).size;rw[Array.size_append,<- hgr];omega
  ·unfold sortWorldK grow;show((putRowK oO 5 (Sort.ahead W m) g 0 d').heap++os)[x]? =_;rw[Array.getElem?_append_left (by rw[<- hgr];exact hx)];unfold putRowK putRow mapBlock;show(W.heap.modify g _)[x]? =_;rw[Array.getElem?_modify,if_neg (fun e1=>hne (by rw[e1]))]
end
section
open Go.RowKit Go.Shelf Go.Sort
set_option maxHeartbeats 2000000
theorem a0x (W:World):ak 147 #[.slice none 0 0,aa 0,aa 0,mH] W fun e w'=>e=.returned (.tuple #[])/\w'=W:=by
 go_enter func147,ntmps147;go_wp2_with fail
 go_loopw [8] (fun y wr=>y=aa 1/\wr=W) (fun _ _=>0)
 case atStart=>exact⟨rfl,rfl⟩
 case round=>
  obtain⟨rfl,rfl⟩:=hrel;go_wp2_with fail
  go_end0
  exact⟨rfl,rfl⟩
theorem Nv (W:World):ak 100 #[.slice none 0 0,aa 0,mH] W fun e w'=>e=.returned (.tuple #[])/\w'=W:=by
 have IN:ak 147 #[.slice none 0 0,aa 0,aa 0,mH] W fun e w'=>e=.returned (.tuple #[])/\W=w':=(a0x W).mono fun _ _ h=>⟨h.1,h.2.symm⟩;go_enter func100,ntmps100;go_upto_region 2 with fail
 go_loopw [7,8] (fun x y wr=>x=aa 0/\y=aa 20/\wr=W) (fun _ _ _=>0)
 case atStart=>exact⟨rfl,rfl,rfl⟩
 case round=>
  obtain⟨rfl,rfl,rfl⟩:=hrel;go_wp2_with(go_at_call 147;refine IN.mono ?_;rintro e w1 ⟨rfl,rfl⟩)
  go_loopw [6] (fun x w2=>x=aa 20/\w2=wr) (fun _ _=>0)
  case atStart=>exact⟨rfl,rfl⟩
  case round=>
   obtain⟨rfl,rfl⟩:=hrel;go_wp2_with fail
   go_end0
   exact⟨rfl,rfl⟩
theorem Xa (W:World):ak 53 #[.slice none 0 0,mH] W fun e w'=>e=.returned (.tuple #[])/\w'=W:=by
 have SA:=Nv W;go_enter func53,ntmps53;go_wp2_with(go_at_call 100;refine SA.mono ?_;rintro e w1 ⟨rfl,rfl⟩)
 go_end0
 exact⟨rfl,rfl⟩
theorem a0y {base:Nat}{W:World}{v:Value}(ps:List bZ)(hl:ps.length<=1000)(hlv:∀x∈ps,0<=x.lv/\x.lv<1000)(ho:W.ownsRow base 138 5 v ps.length (cellsS ps)):
  ak 53 #[v,mH] W fun e w'=>e=.returned (.tuple #[])/\∃qs:List bZ,qs.map bZ.pc=tH (ps.map bZ.pc)/\qs.length=ps.length/\(∀x∈qs,x∈ps)/\w'.ownsRow base 138 5 v qs.length (cellsS qs)/\W.grownBy w' v.ownBlock:=by
 obtain⟨h1,h2⟩:=id ho;rcases h2 with⟨rfl,h3⟩|⟨g,cap,cur,rfl,h3,h4,h5,h6,h7,h8⟩
 ·obtain rfl:ps=[]:=List.length_eq_zero_iff.1 h3;refine(Xa W).mono fun e w' ⟨h4,h5⟩=>⟨h4,[],by simp[tH],rfl,fun x hx=>hx,by rw[h5];exact ho,?_⟩;rw[h5];exact⟨rfl,rfl,rfl,Nat.le_refl _,fun _ _ _=>rfl⟩
 ·exact Gn ps hl hlv h3 h4 h5 h6 h7 h8
def a0z (E:Nat->Addr)(W:World)(x:Except Ft (List Pc))(e:Ending)(w':World):Prop:=match x with
 | .error f=>∃u,e=.returned (.tuple #[.slice none 0 0,u])/\Tz E f W.heap.size u w'
 | .ok l=>∃qs v,qs.map bZ.pc=l/\e=.returned (.tuple #[v,.nilIface])/\w'.ownsRow W.heap.size 138 5 v qs.length (cellsS qs)/\(∀x∈qs,fV w' W.heap.size (BH x) x.pts)/\∀x∈qs,∀a∈x.pts,dD a=0
end
section
open Go.RowKit Go.Shelf Go.Sort
set_option maxHeartbeats 8000000
set_option maxRecDepth 20000
theorem Kg {α:Type}(g:Nat×List Pc->α->Except Ft (Nat×List Pc))(hg:∀s x s',g s x=.ok s'->s.1<=100->s'.1<=100):∀(l:List α) (s s':Nat×List Pc),l.foldlM g s=.ok s'->s.1<=100->s'.1<=100
 |[],s,s',h,h0=>by cases h;exact h0
 |x::l,s,s',h,h0=>by
  rw[List.foldlM_cons] at h;cases hx:g s x with
  |error e=>rw[hx] at h;cases h
  |ok t=>
   rw[hx] at h;exact Kg g hg l t s' h (hg s x t hx h0)
theorem vV (M:Dm)(l:List Rl):∀(f:Nat) (n:Int) (path:List Int) (m:Mv) (st s':Nat×List Pc),dm M l f n path m st=.ok s'->st.1<=100->s'.1<=100
 |0,n,path,m,st,s',h,_=>by
  unfold dm at h;split at h<;>cases h
 |f+1,n,path,m,st,s',h,_=>by
  unfold dm at h;split at h
  ·cases h
  split at h
  ·cases h
  next _ hc=>
  have h1:st.1+1<=100:=by omega
  split at h
  ·cases h;exact h1
  have PC:∀(m':Mv) (x:Except Nat (List Qt)),gK M l n m' x (st.1+1,st.2)=.ok s'->s'.1<=100:=fun m' x h=>by
   unfold gK at h;split at h
   ·cases h
   ·split at h
    ·cases h
    ·split at h<;>cases h<;>exact h1
  split at h
  ·cases h
  ·split at h
   ·exact PC _ _ h
   ·split at h
    ·exact PC _ _ h
    ·split at h
     ·exact Kg _ (fun s x s' h=>vV M l f x _ _ s s' h) _ (st.1+1,st.2) s' h h1
     ·split at h
      ·cases h
      ·exact vV M l f _ _ _ (st.1+1,st.2) s' h h1
theorem Xb {E:Nat->Addr}{W w2:World}{WB DB:Nat}{sf:Value}{k:Nat}{ps:List bZ}{v:Value}(hb:Below W.heap.size W w2)(hs:Sc W.heap.size WB DB sf k ps v w2)(hl:ps.length<=1000)(hlv:Dj (ps.map bZ.pc)):
  ak 53 #[v,mH] w2 fun e w3=>e=.returned (.tuple #[])/\w3.cell? (ag WB 3)=some v/\Hid (a0z E W (.ok (tH (ps.map bZ.pc))) (.returned (.tuple #[v,.nilIface])) w3/\Below W.heap.size W w3):=by
 refine(a0y ps hl (fun x hx=>hlv x.pc (List.mem_map_of_mem hx)) hs.own).mono fun e w3 ⟨h1,qs,h2,h3,h4,h5,gr⟩=>?_;have neW:v.ownBlock≠some WB:=fun e1=>by
  obtain⟨cs,f,h6, -⟩:=dJ hs.own WB e1;rw[hs.wb] at h6;cases h6
 have kW:=(gr.block WB (aN hs.wb) (fun e1=>neW e1.symm)).trans hs.wb;refine⟨h1,aA kW 3 _ rfl,⟨qs,v,h2,rfl,h5,fun x hx=>?_,fun x hx=>hs.rt x (h4 x hx)⟩,hb.grown gr hb.size (fun j hj=>?_)⟩
 ·have ho:=hs.pts x (h4 x hx);refine bS ho fun g hg=>?_;obtain⟨cs,f,h6, -⟩:=dJ ho g hg;refine gr.block g (aN h6) (fun e1=>?_);obtain⟨cs',f',h7, -⟩:=dJ hs.own g e1.symm;rw[h6] at h7;cases h7
 ·obtain⟨-, -, -,h6⟩:=dJ hs.own j hj;exact h6
section
variable {E:Nat->Addr}{B:Nat}{tg:kE}{W:World}{DB MB:Nat}{p:Int->Option Nat}{M:Dm}{nx c:Nat}{r:Int->Nat}{l:List Rl}{B0:Nat}{rv:Value}
abbrev oD (DB:Nat):Obj:=.cells #[aj DB] 52
abbrev Kh (rv:Value):Obj:=.cells #[rv] 68
abbrev oW (DB H:Nat):Obj:=.cells #[aj DB,jJ H (H+1),aa 0,.slice none 0 0] 123
abbrev oP:Obj:=.cells (Gi (-1) (.pointer none) .one) 132
theorem Pq (W w1:World)(hb:Below (((W.alloc (oD DB)).alloc (Kh rv)).alloc (oW DB W.heap.size)).heap.size (((W.alloc (oD DB)).alloc (Kh rv)).alloc (oW DB W.heap.size)) w1):lC (W.heap.size+2) DB W.heap.size (W.heap.size+1) rv W 0 [] (.slice none 0 0) w1:=by
 have b1:=aW W (oD DB);have b2:=aW (W.alloc (oD DB)) (Kh rv);have b3:=aW ((W.alloc (oD DB)).alloc (Kh rv)) (oW DB W.heap.size);have k1:=dh W #[aj DB] 52;have k2:=dh (W.alloc (oD DB)) #[rv] 68;have k3:=dh ((W.alloc (oD DB)).alloc (Kh rv)) #[aj DB,jJ W.heap.size (W.heap.size+1),aa 0,.slice none 0 0] 123;have z1:(W.alloc (oD DB)).heap.size=W.heap.size+1:=World.size_alloc _ _;have z2:((W.alloc (oD DB)).alloc (Kh rv)).heap.size=W.heap.size+2:=by rw[World.size_alloc,z1]
 have sj:=az b2 (az b3 hb);refine⟨az b1 sj,Nat.le_add_right _ _,(sj.block _ (aN k1)).trans k1,?_,⟨?_,World.ownsRow_nil _ _ _ _,fun x hx=>(by cases hx),fun x hx=>(by cases hx)⟩⟩
 ·rw[z1] at k2;have:=((az b3 hb).block _ (aN k2)).trans k2;exact this
 ·rw[z2] at k3;exact(hb.block _ (aN k3)).trans k3
theorem Cb (h:En E B tg W DB MB p M nx c r l B0 rv):
  ak 26 #[aj DB,rv] W fun e w'=>a0z E W (di M l) e w'/\Below W.heap.size W w':=by
 have ON:=oH (((W.alloc (oD DB)).alloc (Kh rv)).alloc (oW DB W.heap.size));obtain⟨GK,GL,Wj⟩:=aI h.row;subst Wj;have CM:∀w1,Below (((W.alloc (oD DB)).alloc (Kh (.slice GK l.length GL))).alloc (oW DB W.heap.size)).heap.size (((W.alloc (oD DB)).alloc (Kh (.slice GK l.length GL))).alloc (oW DB W.heap.size)) w1->ak 51 #[.pointer (some ⟨W.heap.size+2,0,none⟩),aa 0,aj w1.heap.size] (w1.alloc oP) fun e w'=>dK E W.heap.size (W.heap.size+2) DB (jJ W.heap.size (W.heap.size+1)) (.slice none 0 0) (w1.alloc oP) (dm M l 101 0 [-1] .one (0,[])) e w'/\Kw (W.heap.size+2) (.slice none 0 0) (w1.alloc oP) w':=fun w1 hb=>
  Kb h 101 0 [] (.slice none 0 0) (w1.alloc oP) 0 (-1) .one [] w1.heap.size (by omega) eU (by decide) (Pq W _ (az hb (aW _ _))) ⟨_,none,rfl,dh _ _ _,rfl⟩ Al
 have WK:∀w1,Below (((W.alloc (oD DB)).alloc (Kh (.slice GK l.length GL))).alloc (oW DB W.heap.size)).heap.size (((W.alloc (oD DB)).alloc (Kh (.slice GK l.length GL))).alloc (oW DB W.heap.size)) w1->lC (W.heap.size+2) DB W.heap.size (W.heap.size+1) (.slice GK l.length GL) W 0 [] (.slice none 0 0) (w1.alloc oP):=fun w1 hb=>Pq W _ (az hb (aW _ _));have a4q:Hid (∀st,dm M l 101 0 [-1] .one (0,[])=.ok st->st.2.length<=1000/\Dj st.2/\di M l=.ok (tH st.2)):=(fun st hst=>by
  have h1:=qY M l 101 0 [-1] .one (0,[]) st hst eU;have h2:=vV M l 101 0 [-1] .one (0,[]) st hst (Nat.zero_le _);refine⟨by omega,Gm M l 101 0 [-1] .one (0,[]) st hst (fun x hx=>(by cases hx)),?_⟩;unfold di;rw[hst]:∀st,dm M l 101 0 [-1] .one (0,[])=.ok st->st.2.length<=1000/\Dj st.2/\di M l=.ok (tH st.2))
 have a4r:Hid (∀ft,dm M l 101 0 [-1] .one (0,[])=.error ft->di M l=.error ft):=(fun ft hst=>by unfold di;rw[hst]:∀ft,dm M l 101 0 [-1] .one (0,[])=.error ft->di M l=.error ft);have k1:=bO (Kh (.slice GK l.length GL)) (gp W #[aj DB] 52 0 _ rfl);have hW0:Hid (Below W.heap.size W (((W.alloc (oD DB)).alloc (Kh (.slice GK l.length GL))).alloc (oW DB W.heap.size))):=az (aW _ _) (az (aW _ _) (aW _ _));clear h;obtain⟨res,hres⟩:∃x,dm M l 101 0 [-1] .one (0,[])=x:=⟨_,rfl⟩;rw[hres] at CM;cases res with
 |error ft=>
  have HP:=a4r.out ft hres;rw[HP];have CM':∀w1,Below (((W.alloc (oD DB)).alloc (Kh (.slice GK l.length GL))).alloc (oW DB W.heap.size)).heap.size (((W.alloc (oD DB)).alloc (Kh (.slice GK l.length GL))).alloc (oW DB W.heap.size)) w1->ak 51 #[.pointer (some ⟨W.heap.size+2,0,none⟩),aa 0,aj w1.heap.size] (w1.alloc oP) fun e w'=>∃pb,e=.returned (.iface 113 (aj pb))/\Hid (Tz E ft (w1.alloc oP).heap.size (.iface 113 (aj pb)) w'/\Below W.heap.size W w'):=fun w1 hb=>(CM w1 hb).mono fun e w' ⟨⟨u,h1,h2⟩,h3⟩=>by
   obtain⟨pb,h4,rfl,h5⟩:=h2;exact⟨pb,h1,⟨pb,h4,rfl,h5⟩,(WK w1 hb).low.trans ((WK w1 hb).sc.low h3 (WK w1 hb).wb (WK w1 hb).low.size)⟩
  clear CM WK a4q a4r hres HP;go_enter func26,ntmps26;go_wp2_with(first|(go_at_call 52;refine ON.mono ?_;rintro e w1 ⟨rfl,b1⟩;have C1:=CM' w1 b1)|(go_at_call 51;refine C1.mono ?_;rintro e w2 ⟨pb,rfl,h2⟩))
  go_ret2
  obtain⟨h3,h4⟩:=h2.out;have hs:=(az (az hW0.out b1) (aW w1 oP)).size;exact⟨⟨_,rfl,h3.low hs⟩,h4⟩
 |ok st=>
  obtain⟨hlen,hlv,HP⟩:=a4q.out st hres;rw[HP];have CM':∀w1,Below (((W.alloc (oD DB)).alloc (Kh (.slice GK l.length GL))).alloc (oW DB W.heap.size)).heap.size (((W.alloc (oD DB)).alloc (Kh (.slice GK l.length GL))).alloc (oW DB W.heap.size)) w1->ak 51 #[.pointer (some ⟨W.heap.size+2,0,none⟩),aa 0,aj w1.heap.size] (w1.alloc oP) fun e w'=>e=.returned .nilIface/\∃o n cp,w'.cell? ⟨W.heap.size+2,3,none⟩=some (.slice o n cp)/\ak 53 #[.slice o n cp,mH] w' fun e w3=>e=.returned (.tuple #[])/\w3.cell? ⟨W.heap.size+2,3,none⟩=some (.slice o n cp)/\Hid (a0z E W (.ok (tH st.2)) (.returned (.tuple #[.slice o n cp,.nilIface])) w3/\Below W.heap.size W w3):=fun w1 hb=>(CM w1 hb).mono fun e w' ⟨⟨h1,ps2,v2,h2,h3,h4⟩,h5⟩=>by
   obtain⟨o,cp,hv⟩:=aI h3.own;subst hv;have hlow:Below W.heap.size W w':=(WK w1 hb).low.trans ((WK w1 hb).sc.low h5 (WK w1 hb).wb (WK w1 hb).low.size);have SE:=Xb (E:=E) hlow h3 (by have h6:=congrArg List.length h2;rw[List.length_map] at h6;omega) (by rw[h2];exact hlv);rw[h2] at SE;exact⟨h1,o,_,cp,aA h3.wb 3 _ rfl,SE⟩
  clear CM WK a4q a4r hres HP;go_enter func26,ntmps26;go_wp2_with(first|(go_at_call 52;refine ON.mono ?_;rintro e w1 ⟨rfl,b1⟩;have C1:=CM' w1 b1)|(go_at_call 51;refine C1.mono ?_;rintro e w2 ⟨rfl,o,nn,cp,c3,S3⟩)|(go_at_call 53;refine S3.mono ?_;rintro e w3 ⟨rfl,c4,h2⟩))
  go_ret2
  exact h2.out
end
end
section
open Go.RowKit
structure LE (E:Nat->Addr)(w:World):Prop where
 ne:NE E w
 de:DE E w
 ty:w.cell? (ag 11 0)=some (.iface 302 (.agg #[hE]))
section
variable {E:Nat->Addr}{w w':World}
theorem LE.ce (h:LE E w):CE E w:=⟨h.de.c4,h.de.c6,h.de.c7,h.de.c8,h.de.c10⟩
theorem LE.ep (h:LE E w):EP (E 2) (E 3) (E 3) (E 10) w:=⟨⟨h.de.c2,h.de.c3,rfl⟩,h.de.c10,h.ty⟩
theorem LE.below (h:LE E w)(hb:Below w.heap.size w w'):LE E w':=⟨h.ne.below hb,h.de.below hb eU,(hb.cell (ay h.ty)).trans h.ty⟩
end
theorem dP.fit {M:Dm}(h:dP M):MW M/\SzD M:=by
 refine⟨fun n e he=>?_,fun n e he a ha=>?_⟩
 ·obtain⟨h1, -,h3⟩:=h n e he;refine⟨fun e1=>(by rw[e1] at h1;exact absurd h1 (by decide)),fun a ha=>?_⟩;have:=nD (h3.1 a ha).2;omega
 ·obtain⟨-, -,h3⟩:=h n e he;exact nD (h3.1 a ha).2
theorem Ki {α β:Type}{f g:α->List β}:∀ks:List α,(∀j∈ks,f j=g j)->ks.flatMap f=ks.flatMap g
 |[],_=>rfl
 |k::ks,h=>by rw[List.flatMap_cons,List.flatMap_cons,h k (by simp),Ki ks (fun j hj=>h j (by simp[hj]))]
theorem Kj {α:Type}(q:α->Bool):∀l:List α,(l.filter q).length+(l.filter (fun x=> !q x)).length=l.length
 |[]=>rfl
 |a::l=>by
  have ih:=Kj q l;cases hq:q a
  ·rw[List.filter_cons_of_neg (by simp[hq]),List.filter_cons_of_pos (by simp[hq]),List.length_cons,List.length_cons];omega
  ·rw[List.filter_cons_of_pos hq,List.filter_cons_of_neg (by simp[hq]),List.length_cons,List.length_cons];omega
theorem Kk:∀(ks:List Nat) (l:List Pc),ks.Nodup->(ks.flatMap (fun(k:Nat)=>l.filter (fun x=>x.lv==(k:Int)))).length<=l.length
 |[],_,_=>Nat.zero_le _
 |k::ks,l,h=>by
  obtain⟨h1,h2⟩:=List.nodup_cons.1 h;have h3:=Kk ks (l.filter (fun x=> !(x.lv==(k:Int)))) h2;have h4:ks.flatMap (fun(j:Nat)=>(l.filter (fun x=> !(x.lv==(k:Int)))).filter (fun x=>x.lv==(j:Int)))=ks.flatMap (fun(j:Nat)=>l.filter (fun x=>x.lv==(j:Int))):=by
   refine Ki ks fun j hj=>?_;rw[List.filter_filter];congr 1;funext x;by_cases hx:x.lv=(j:Int)
   ·have:j≠k:=fun e=>h1 (e▸hj);simp[hx];omega
   ·simp[hx]
  rw[h4] at h3;rw[List.flatMap_cons,List.length_append];have h5:=Kj (fun x:Pc=>x.lv==(k:Int)) l;omega
theorem Xc (l:List Pc):(tH l).length<=l.length:=Kk _ l List.nodup_range
def vW (M:Dm)(rl:List Rl):Prop:=∃l,di M rl=.ok l/\∀x∈l,iJ (dY x)
structure Yu (W:World)(LB B:Nat)(tg:kE)(DB MB:Nat)(p:Int->Option Nat)(M:Dm)(nx c:Nat)(r:Int->Nat)(rl:List Rl)(rv:Value)(qs:List bZ)(pv:Value)(w h:Nat)(cv:Value):Prop where
 lb:W.heap[LB]? =some (.cells #[aj DB,rv,pv,aa w,aa h,cv] 77)
 base:B<=LB
 ds:gN B tg W DB MB p M nx c r
 ok:dP M
 rok:∀x∈rl,RlG x
 row:W.ownsRow B 110 3 rv rl.length (fH rl)
 pc:uA W B pv qs
 pm:di M rl=.ok (qs.map bZ.pc)
 pk:∀x∈qs,iJ (dY x.pc)
 ql:qs.length<=1000
 Xe:W.ownsRow B 9 1 cv (w*h) ((iZ aC ((qs.map bZ.pc).map dY) w h).map .string)
section
variable {E:Nat->Addr}{W w':World}{LB B:Nat}{tg:kE}{DB MB:Nat}{p:Int->Option Nat}{M:Dm}{nx c:Nat}{r:Int->Nat}{rl:List Rl}{rv:Value}{qs:List bZ}{pv:Value}{w h:Nat}{cv:Value}
theorem Yu.below (hl:Yu W LB B tg DB MB p M nx c r rl rv qs pv w h cv)(hb:Below W.heap.size W w'):Yu w' LB B tg DB MB p M nx c r rl rv qs pv w h cv:=
 ⟨(hb.block _ (aD hl.lb)).trans hl.lb,hl.base,hl.ds.below hb,hl.ok,hl.rok,aK hl.row hb,hl.pc.below hb,hl.pm,hl.pk,hl.ql,aK hl.Xe hb⟩
theorem Cc {M:Dm}{rl:List Rl}{l:List Pc}(hp:di M rl=.ok l):l.length<=1000:=by
 unfold di at hp;cases hc:dm M rl 101 0 [-1] .one (0,[]) with
 |error e=>rw[hc] at hp;cases hp
 |ok st=>
  rw[hc] at hp;have hl:=Except.ok.inj hp;rw[<- hl];have h1:=qY M rl 101 0 [-1] .one (0,[]) st hc eU;have h2:=vV M rl 101 0 [-1] .one (0,[]) st hc (Nat.zero_le _);have h3:=Xc st.2;omega
end
end
section
open Go.RowKit
set_option maxHeartbeats 4000000
set_option maxRecDepth 20000
mutual
theorem Xf:∀(n:Nd) (deep ahead k:Nat) (p:Int),(fT n deep ahead).1=0->∀e∈mP k p n,a4a e
 | .mk nm ats ks,deep,ahead,k,p,h,e,he=>by
  unfold fT at h;split at h
  ·rename_i h1;rw[mP] at he;rcases List.mem_cons.1 he with rfl|he
   ·obtain⟨a1,a2, -⟩:=V8 h1;refine⟨a1,a2,Dh.ck.1 ?_⟩;unfold ck1 at h1;obtain⟨b1,b2⟩:=vo (nm:=nm) (ats:=ats) (deep:=deep) (ahead:=ahead) (by unfold ck1;exact h1);rw[if_neg (by omega),if_neg (by omega),if_pos a1,if_neg (by omega)] at h1;exact h1
   ·exact Xg ks _ _ _ _ h e he
  ·rename_i h1;exact(h1 h).elim
theorem Xg:∀(l:List Nd) (deep ahead k:Nat) (p:Int),(uD l deep ahead).1=0->∀e∈NF k p l,a4a e
 |[],_,_,_,_,_,e,he=>by simp[NF] at he
 |n::l,deep,ahead,k,p,h,e,he=>by
  by_cases h1:(fT n deep ahead).1=0
  ·rw[qM h1] at h;rw[NF] at he;rcases List.mem_append.1 he with he|he
   ·exact Xf n deep ahead _ _ h1 e he
   ·exact Xg l _ _ _ _ h e he
  ·rw[vv h1] at h;exact(h1 h).elim
end
theorem xC {n:Nd}(hc:(fT n 1 0).1=0):dP (dZ n):=fun i e he=>by
 unfold dZ zU at he;split at he
 ·exact Xf n 1 0 0 (-1) hc e (List.mem_of_getElem? he)
 ·cases he
theorem Sj (W:World):ak 24 #[.string ⟨#[]⟩] W fun e w'=>e=.returned (.tuple #[.slice none 0 0,.nilIface])/\Below W.heap.size W w':=by
 go_enter func24,ntmps24;go_wp2_with fail;refine wp_loop_rounds 1 ?_;rw[rounds_succ];go_wp2_with fail
 go_ret2
 exact⟨rfl,Below.refl _ _⟩
def acP (n:Nd)(w h B:Nat)(e:Ending)(w':World):Prop:=
 (¬((fT n 1 0).1=0/\vW (dZ n) [])/\∃t u,e=.returned (.tuple #[.pointer none,.iface t u]))\/
 ((fT n 1 0).1=0/\vW (dZ n) []/\∃LB tg DB MB p rv qs pv cv,e=.returned (.tuple #[aj LB,.nilIface])/\Yu w' LB B tg DB MB p (dZ n) (dQ n) (dQ n) (Db n) [] rv qs pv w h cv)
theorem Ce {E:Nat->Addr}{V:World}{base:Nat}{v:Value}{qs:List bZ}(hE:LE E V)(h:uA V base v qs)(hl:qs.length<=1000)(w k:Nat)(hw1:1<=w)(hw:w<=40)(hk1:1<=k)(hk:k<=40):
  ak 25 #[v,.int .i64 w,.int .i64 k] V fun e W=>(((∀x∈qs,iJ (dY x.pc))/\∃g cp,e=.returned (.tuple #[.agg #[.int .i64 w,.int .i64 k,.slice (some ⟨g,0,none⟩) (w*k) cp],.nilIface])/\W.ownsRow V.heap.size 9 1 (.slice (some ⟨g,0,none⟩) (w*k) cp) (w*k) ((iZ aC ((qs.map bZ.pc).map dY) w k).map .string))\/((¬∀x∈qs,iJ (dY x.pc))/\∃a,e=.returned (.tuple #[.agg #[.int .i64 0,.int .i64 0,.slice none 0 0],.iface 113 (.pointer (some a))])))/\Below V.heap.size V W:=by
 obtain⟨o,cap,rfl,h1,h2⟩:=h.row;refine(Wh _ _ _ _ (qs.map bZ.p5) o cap w k V hw1 hw hk1 hk (by rw[List.length_map];exact hl) h1 h2 hE.ep).mono fun e W ⟨h3,h4⟩=>⟨?_,h4⟩;have hok:jq (qs.map bZ.p5)↔∀x∈qs,iJ (dY x.pc):=by
  unfold jq;constructor
  ·intro hh x hx;exact hh _ (List.mem_map_of_mem hx)
  ·intro hh x hx;obtain⟨y,hy,rfl⟩:=List.mem_map.1 hx;exact hh y hy
 rcases h3 with⟨h5,v,h6,h7⟩|⟨h5,a,h6⟩
 ·obtain⟨g,cp,rfl, -, -⟩:=h7.form (Nat.mul_pos hw1 hk1);rw[a1M] at h7;exact .inl ⟨hok.1 h5,g,cp,h6,h7⟩
 ·exact .inr ⟨fun hh=>h5 (hok.2 hh),a,h6⟩
theorem yf.a0A {B B':Nat}{tg:kE}{w:World}{i:Int}{b:Nat}{e:iy}{va vk:Value}(h:yf B tg w i b e va vk)(hb:B'<=B):yf B' tg w i b e va vk:=⟨h.cells,h.tag,eu h.ats hb,h.lI,eu h.kids hb,h.jX⟩
theorem bG.a0A {B B':Nat}{tg:kE}{w:World}{DB MB:Nat}{p:Int->Option Nat}{M:Dm}{nx c:Nat}(h:bG B tg w DB MB p M nx c)(hb:B'<=B):bG B' tg w DB MB p M nx c:=
 ⟨h.doc,h.jP,h.map,h.kF,fun i e he=>by obtain⟨b,va,vk,h1,h2⟩:=h.els i e he;exact⟨b,va,vk,h1,h2.a0A hb⟩,h.non,fun b t ht=>⟨Nat.le_trans hb (h.low b t ht).1,(h.low b t ht).2⟩,h.dom,h.wf,h.few,h.Tu⟩
theorem a4s (V:World)(base:Nat):uA V base (.slice none 0 0) []:=⟨World.ownsRow_nil _ _ _ _,fun x hx=>(by cases hx),fun x hx=>(by cases hx)⟩
theorem Xh (E:Nat->Addr)(n:Nd)(c0 c1 c2:Value)(W:World)(w h:Nat)(hE:LE E W)(hn:jR W c0 c1 c2 n)(hs:dQ n<=1000000)(hw1:1<=w)(hw:w<=40)(AZ:1<=h)(hh:h<=40):
  ak 9 #[.agg #[c0,c1,c2],.string ⟨#[]⟩,.int .i64 w,.int .i64 h] W fun e w'=>Below W.heap.size W w'/\acP n w h W.heap.size e w':=by
 obtain⟨sa,oa,na,ka,wX,na',ka',rfl,rfl,rfl⟩:∃(sa:ByteArray) (oa:Option Addr) (na ka:Nat) (wX:Option Addr) (na' ka':Nat),c0=.string sa/\c1=.slice oa na ka/\c2=.slice wX na' ka':=by
  obtain⟨nm,ats,ks⟩:=n;unfold jR at hn;obtain⟨h1, -,⟨o,cap,h2, -⟩,o',cap',h3, -⟩:=hn;exact⟨_,_,_,_,_,_,_,h1,h2,h3⟩
 have b0:=aW W (.cells #[.string sa,.slice oa na ka,.slice wX na' ka'] 25);have hE0:=hE.below b0;have hn0:=hn.below b0;have kb:=dh W #[.string sa,.slice oa na ka,.slice wX na' ka'] 25;go_enter func9,ntmps9;go_upto_region 1 with fail;obtain⟨U,hU⟩:∃U,W.alloc (.cells #[.string sa,.slice oa na ka,.slice wX na' ka'] 25)=U:=⟨_,rfl⟩;rw[hU] at b0 hE0 hn0 kb⊢;have k0:=aA kb 0 _ rfl;have k1:=aA kb 1 _ rfl;have k2:=aA kb 2 _ rfl;clear hU kb;by_cases hc:(fT n 1 0).1=0
 ·have DN:=a7N E n _ _ _ U hE0.ce hn0 hs hc;have RS:=fun V=>Sj V;have P0:∀V,Below U.heap.size U V->ak 25 #[.slice none 0 0,.int .i64 w,.int .i64 h] V fun e W=>∃g cp,e=.returned (.tuple #[.agg #[.int .i64 w,.int .i64 h,.slice (some ⟨g,0,none⟩) (w*h) cp],.nilIface])/\Below V.heap.size V W:=fun V hV=>(Ce (hE0.below hV) (a4s V 0) (by simp) w h hw1 hw AZ hh).mono fun e W ⟨h1,h2⟩=>by
   rcases h1 with⟨-,g,cp,h3, -⟩|⟨h1, -⟩
   ·exact⟨g,cp,h3,h2⟩
   ·exact absurd (fun x hx=>(by cases hx)) h1
  have PI:∀V B tg DB MB p,Below U.heap.size U V->gN B tg V DB MB p (dZ n) (dQ n) (dQ n) (Db n)->ak 26 #[aj DB,.slice none 0 0] V fun e w'=>a0z E V (di (dZ n) []) e w'/\Below V.heap.size V w':=fun V B tg DB MB p hV hd=>Cb (l:=[]) (B0:=0) ⟨hd,(hE0.below hV).ne,(xC hc).fit.1,(xC hc).fit.2,fun x hx=>(by cases hx),World.ownsRow_nil _ _ _ _⟩;obtain⟨pm,hpm⟩:∃x,di (dZ n) []=x:=⟨_,rfl⟩;rw[hpm] at PI;have Sk:Hid (di (dZ n) []=pm):=hpm;have HC:Hid ((fT n 1 0).1=0):=hc;clear hpm hc;cases pm with
  |error ft=>
   have EE:Hid (¬vW (dZ n) []):=(fun⟨l,h1,_⟩=>by rw[Sk.out] at h1;exact absurd h1 (by simp):¬vW (dZ n) []);have PI':∀V B tg DB MB p,Below U.heap.size U V->gN B tg V DB MB p (dZ n) (dQ n) (dQ n) (Db n)->ak 26 #[aj DB,.slice none 0 0] V fun e w'=>∃pb,e=.returned (.tuple #[.slice none 0 0,.iface 113 (aj pb)])/\Below V.heap.size V w':=fun V B tg DB MB p hV hd=>(PI V B tg DB MB p hV hd).mono fun e w' ⟨⟨u,h1,pb,_,h2,_⟩,h3⟩=>⟨pb,by rw[h1,h2],h3⟩;clear PI Sk;go_wp2_with(first|(go_at_call 26;refine(PI' _ _ _ _ _ _ (az (az b1 b2) (az b3 (aW w3 _))) (hd.below (az b2 (az b3 (aW w3 _))))).mono ?_;rintro e w4 ⟨pb,rfl,b4⟩)|(go_at_call 25;refine(P0 _ (az b1 b2)).mono ?_;rintro e w3 ⟨g,cp,rfl,b3⟩)|(go_at_call 24;refine(RS _).mono ?_;rintro e w2 ⟨rfl,b2⟩)|(go_at_call 23;refine DN.mono ?_;rintro e w1 ⟨b1,DB,MB,tg,p,rfl,hd⟩))
   go_ret2
   exact⟨az (az b0 b1) (az b2 (az b3 (az (aW w3 _) b4))),.inl ⟨fun hh=>EE.out hh.2,_,_,rfl⟩⟩
  |ok l=>
   have hll:=Cc Sk.out;have PI':∀V B tg DB MB p,Below U.heap.size U V->gN B tg V DB MB p (dZ n) (dQ n) (dQ n) (Db n)->ak 26 #[aj DB,.slice none 0 0] V fun e w'=>∃qs o m cp,e=.returned (.tuple #[.slice o m cp,.nilIface])/\Hid (qs.map bZ.pc=l)/\uA w' V.heap.size (.slice o m cp) qs/\Below V.heap.size V w':=fun V B tg DB MB p hV hd=>(PI V B tg DB MB p hV hd).mono fun e w' ⟨⟨qs,v,h1,h2,h3,h4,h5⟩,h6⟩=>by
    obtain⟨o,cp,rfl⟩:=aI h3;exact⟨qs,o,_,cp,h2,h1,⟨h3,h4,h5⟩,h6⟩
   have Nc:Hid (l.length<=1000):=hll;clear PI hll;by_cases hk:∀x∈l,iJ (dY x)
   ·have PP:∀V base v qs,Below U.heap.size U V->Hid (qs.map bZ.pc=l)->uA V base v qs->ak 25 #[v,.int .i64 w,.int .i64 h] V fun e W=>∃g cp,e=.returned (.tuple #[.agg #[.int .i64 w,.int .i64 h,.slice (some ⟨g,0,none⟩) (w*h) cp],.nilIface])/\Hid (W.ownsRow V.heap.size 9 1 (.slice (some ⟨g,0,none⟩) (w*h) cp) (w*h) ((iZ aC ((qs.map bZ.pc).map dY) w h).map .string))/\Below V.heap.size V W:=fun V base v qs hV hq hp=>(Ce (hE0.below hV) hp (by have h1:=Nc.out;rw[<- hq.out,List.length_map] at h1;exact h1) w h hw1 hw AZ hh).mono fun e W ⟨h1,h2⟩=>by
     rcases h1 with⟨-,g,cp,h3,h4⟩|⟨h1, -⟩
     ·exact⟨g,cp,h3,h4,h2⟩
     ·exact absurd (fun(x:bZ) hx=>hk x.pc (by rw[<- hq.out];exact List.mem_map_of_mem hx)) h1
    have HK:Hid (∀x∈l,iJ (dY x)):=hk;clear hk;go_wp2_with(first|(have hu:=q4;go_at_call 25;refine(PP _ _ _ qs (az (az b1 b2) (az b3 (az (aW w3 _) b4))) q4 p4).mono ?_;rintro e w5 ⟨g5,cp5,rfl,p5,b5⟩)|(go_at_call 26;refine(PI' _ _ _ _ _ _ (az (az b1 b2) (az b3 (aW w3 _))) (hd.below (az b2 (az b3 (aW w3 _))))).mono ?_;rintro e w4 ⟨qs,o4,n4,c4,rfl,q4,p4,b4⟩)|(go_at_call 25;refine(P0 _ (az b1 b2)).mono ?_;rintro e w3 ⟨g,cp,rfl,b3⟩)|(go_at_call 24;refine(RS _).mono ?_;rintro e w2 ⟨rfl,b2⟩)|(go_at_call 23;refine DN.mono ?_;rintro e w1 ⟨b1,DB,MB,tg,p,rfl,hd⟩))
    go_ret2
    obtain⟨X,hX⟩:∃X,w5.alloc (.cells #[.int .i64 w,.int .i64 h,.slice (some ⟨g5,0,none⟩) (w*h) cp5] 40)=X:=⟨_,rfl⟩;have hXs:X.heap.size=w5.heap.size+1:=by rw[<- hX,World.size_alloc]
    have bX:Below w5.heap.size w5 X:=by rw[<- hX];exact aW _ _
    have bL:=aW X (.cells #[aj DB,.slice none 0 0,.slice o4 n4 c4,.int .i64 w,.int .i64 h,.slice (some ⟨g5,0,none⟩) (w*h) cp5] 77);have b34:=az (aW w3 (.cells #[.int .i64 w,.int .i64 h,.slice (some ⟨g,0,none⟩) (w*h) cp] 40)) b4;have b5L:=az b5 (az bX bL);have b1L:=az b2 (az b3 (az b34 b5L));have bW:=az b0 (az b1 b1L);have z1:=b0.size;have z2:=(az b0 (az b1 (az b2 b3))).size;have z3:=(az b0 (az b1 (az b2 (az b3 b34)))).size;have z4:=(az b0 (az b1 (az b2 (az b3 (az b34 (az b5 bX)))))).size;have z5:=(aW w3 (.cells #[.int .i64 w,.int .i64 h,.slice (some ⟨g,0,none⟩) (w*h) cp] 40)).size;have hqk:∀x∈qs,iJ (dY x.pc):=fun x hx=>HK.out x.pc (by rw[<- q4.out];exact List.mem_map_of_mem hx);have hql:qs.length<=1000:=by have h1:=Nc.out;rw[<- q4.out,List.length_map] at h1;exact h1
    have hd':=hd.below b1L;refine⟨by rw[hX];exact bW,.inr ⟨HC.out,⟨l,Sk.out,HK.out⟩,w5.heap.size+1,tg,DB,MB,p,.slice none 0 0,qs,.slice o4 n4 c4,.slice (some ⟨g5,0,none⟩) (w*h) cp5,rfl,by rw[hX];exact⟨by rw[<- hXs];exact dh _ _ _,by omega,⟨hd'.w.a0A z1,hd'.d,hd'.n,hd'.le,bW.size⟩,xC HC.out,fun x hx=>(by cases hx),World.ownsRow_nil _ _ _ _,(p4.below b5L).low (by omega),by rw[q4.out];exact Sk.out,hqk,hql,eu (aK p5.out (az bX bL)) z3⟩⟩⟩
   ·have PP:∀V base v qs,Below U.heap.size U V->Hid (qs.map bZ.pc=l)->uA V base v qs->ak 25 #[v,.int .i64 w,.int .i64 h] V fun e W=>∃a,e=.returned (.tuple #[.agg #[.int .i64 0,.int .i64 0,.slice none 0 0],.iface 113 (.pointer (some a))])/\Below V.heap.size V W:=fun V base v qs hV hq hp=>(Ce (hE0.below hV) hp (by have h1:=Nc.out;rw[<- hq.out,List.length_map] at h1;exact h1) w h hw1 hw AZ hh).mono fun e W ⟨h1,h2⟩=>by
     rcases h1 with⟨h1, -⟩|⟨-,a,h3⟩
     ·refine absurd (fun x hx=>?_) hk;rw[<- hq.out] at hx;obtain⟨y,hy,rfl⟩:=List.mem_map.1 hx;exact h1 y hy
     ·exact⟨a,h3,h2⟩
    have EE:Hid (¬vW (dZ n) []):=(fun⟨l',h1,h2⟩=>by rw[Sk.out] at h1;have h3:=Except.ok.inj h1;subst h3;exact hk h2:¬vW (dZ n) []);clear hk;go_wp2_with(first|(have hu:=q4;go_at_call 25;refine(PP _ _ _ qs (az (az b1 b2) (az b3 (az (aW w3 _) b4))) q4 p4).mono ?_;rintro e w5 ⟨a5,rfl,b5⟩)|(go_at_call 26;refine(PI' _ _ _ _ _ _ (az (az b1 b2) (az b3 (aW w3 _))) (hd.below (az b2 (az b3 (aW w3 _))))).mono ?_;rintro e w4 ⟨qs,o4,n4,c4,rfl,q4,p4,b4⟩)|(go_at_call 25;refine(P0 _ (az b1 b2)).mono ?_;rintro e w3 ⟨g,cp,rfl,b3⟩)|(go_at_call 24;refine(RS _).mono ?_;rintro e w2 ⟨rfl,b2⟩)|(go_at_call 23;refine DN.mono ?_;rintro e w1 ⟨b1,DB,MB,tg,p,rfl,hd⟩))
    go_ret2
    exact⟨az (az b0 b1) (az b2 (az b3 (az (az (aW w3 _) b4) (az b5 (aW w5 _))))),.inl ⟨fun hh=>EE.out hh.2,_,_,rfl⟩⟩
 ·have DN:=a3K E n _ _ _ U hE0.ce hn0 hs hc;have HC:Hid (¬(fT n 1 0).1=0):=hc;clear hc;go_wp2_with(go_at_call 23;refine DN.mono ?_;rintro e w1 ⟨b1,pb,rfl⟩)
  go_ret2
  exact⟨az b0 b1,.inl ⟨fun hh=>HC.out hh.1,_,_,rfl⟩⟩
end
section
open Go.RowKit
set_option maxHeartbeats 2000000
def Sn (tg:kE)(DB qo:Nat):kE:=fun x=>if x=DB then some .doc else if x=qo then none else tg x
theorem bG.home {B B':Nat}{tg:kE}{w Z:World}{DB qo MB:Nat}{p:Int->Option Nat}{M:Dm}{nx c:Nat}(h:bG B tg w qo MB p M nx c)(hB:B'<=DB)(hDB:DB<B)(hz:∀b,B<=b->Z.heap[b]? =w.heap[b]?)(hd:Z.heap[DB]? =some (.cells #[.map (some MB),aa nx] 85))(hs:w.heap.size<=Z.heap.size):bG B' (Sn tg DB qo) Z DB MB p M nx c:=by
 have hk:∀g t,tg g=some t->t≠.doc->Sn tg DB qo g=some t/\Z.heap[g]? =w.heap[g]? :=fun g t ht hn=>by
  have h1:=(h.low g t ht).1;refine⟨?_,hz g h1⟩;unfold Sn;rw[if_neg (by omega),if_neg (fun e=>by rw[e,h.jP] at ht;cases ht;exact hn rfl)];exact ht
 obtain⟨m1,m2⟩:=hk MB _ h.kF (by simp);refine⟨hd,by unfold Sn;rw[if_pos rfl],h.map.same m2,m1,fun i e he=>?_,h.non,fun b t ht=>?_,h.dom,h.wf,h.few,fun b i hb=>?_⟩
 ·obtain⟨b,va,vk,h1,h2⟩:=h.els i e he;exact⟨b,va,vk,h1,(h2.turn fun g t ht hh=>hk g t ht (by rcases hh with rfl|rfl|rfl<;>simp)).a0A (by omega)⟩
 ·unfold Sn at ht;split at ht
  ·rename_i e;subst e;exact⟨hB,aD hd⟩
  ·split at ht
   ·cases ht
   ·have:=h.low b t ht;omega
 ·refine h.Tu b i ?_;unfold Sn at hb;split at hb
  ·rcases hb with hb|hb|hb<;>cases hb
  ·split at hb
   ·rcases hb with hb|hb|hb<;>cases hb
   ·exact hb
structure Ed where
 kd:Bs
 n:Int
 m:Int
 ea:Int
 nm:Bs
 vl:Bs
abbrev zg (x:Ed):Array Value:=#[.string ⟨x.kd.toArray⟩,aa x.n,aa x.m,aa x.ea,.string ⟨x.nm.toArray⟩,.string ⟨x.vl.toArray⟩]
structure Yv (w:World)(b:Nat)(x:Ed):Prop where
 c0:w.cell? (ag b 0)=some (.string ⟨x.kd.toArray⟩)
 c1:w.cell? (ag b 1)=some (aa x.n)
 c2:w.cell? (ag b 2)=some (aa x.m)
 c3:w.cell? (ag b 3)=some (aa x.ea)
 c4:w.cell? (ag b 4)=some (.string ⟨x.nm.toArray⟩)
 c5:w.cell? (ag b 5)=some (.string ⟨x.vl.toArray⟩)
theorem Yv.of {w:World}{b:Nat}{x:Ed}{t:TypeId}(h:w.heap[b]? =some (.cells (zg x) t)):Yv w b x:=⟨aA h 0 _ rfl,aA h 1 _ rfl,aA h 2 _ rfl,aA h 3 _ rfl,aA h 4 _ rfl,aA h 5 _ rfl⟩
def uC:Bs:=[115,104,101,101,116]
theorem a4v {a b:Bs}(h:a≠b):(a==b)=false:=beq_eq_false_iff_ne.2 h
theorem Nw (x:Ed)(hx:x.kd≠uC)(o:Option Addr)(n cp:Nat)(W:World):
  ak 30 #[.slice o n cp,.agg (zg x)] W fun e w'=>e=.returned (.tuple #[.slice o n cp,.nilIface])/\Below W.heap.size W w':=by
 have hk:=Yv.of (dh W (zg x) 45);have h0:=hk.c0;have hn:=a4v hx;unfold uC at hn;clear hk;go_enter func30,ntmps30;go_wp2_with fail
 go_ret2
 exact⟨rfl,aW _ _⟩
theorem dP.cl {B:Nat}{tg:kE}{W:World}{DB MB:Nat}{p:Int->Option Nat}{M:Dm}{nx c:Nat}{r:Int->Nat}(h:dP M)(hd:gN B tg W DB MB p M nx c r):a8r M:=fun i e he=>by
 obtain⟨-,h2,h3⟩:=h i e he;have h4:=hd.few he;refine⟨by omega,by omega,fun a ha=>?_⟩;have h5:=Aq (h3.1 a ha).1;have h6:=nD (h3.1 a ha).2;simp only[maxLen];omega
end
section
open Go.RowKit
set_option maxHeartbeats 8000000
set_option maxRecDepth 20000
abbrev Sr (a b:List bZ)(h:Nat):List Int:=(gL (a.map bZ.pc) (b.map bZ.pc) h).map fun(y:Nat)=>(y:Int)
def DoR (W:World)(LB B:Nat)(tg:kE)(DB MB:Nat)(p:Int->Option Nat)(M:Dm)(nx c:Nat)(r:Int->Nat)(rl:List Rl)(rv:Value)(qs:List bZ)(pv:Value)(w h:Nat)(cv:Value)(AE RE:Prop)(AO:Dm->Nat->Nat->(Int->Nat)->Prop)(rl':List Rl)(e:Ending)(w':World):Prop:=
 ((∃t u,e=.returned (.tuple #[.slice none 0 0,.iface t u]))/\Below W.heap.size W w'/\Yu w' LB B tg DB MB p M nx c r rl rv qs pv w h cv/\(AE\/RE\/∃M2 lN c2 r2,AO M2 lN c2 r2/\¬vW M2 rl'))\/
 (∃vz MB2 p2 M2 lN c2 r2 rv2 uG pv2 cv2 o n cp,AO M2 lN c2 r2/\vW M2 rl'/\K2 LB DB W w'/\e=.returned (.tuple #[.slice o n cp,.nilIface])/\w'.ownsRow W.heap.size 3 1 (.slice o n cp) (Sr qs uG h).length (bY (Sr qs uG h))/\Yu w' LB B vz DB MB2 p2 M2 lN c2 r2 rl' rv2 uG pv2 w h cv2)
section
variable {E:Nat->Addr}{W:World}{LB B:Nat}{tg:kE}{DB MB:Nat}{p:Int->Option Nat}{M:Dm}{nx c:Nat}{r:Int->Nat}{rl:List Rl}{rv:Value}{qs:List bZ}{pv:Value}{w h:Nat}{cv:Value}
structure Px (Y:World)(LB:Nat)(cs:Array Value)(t:TypeId)(Z:World):Prop where
 lb:Z.heap[LB]? =some (.cells cs t)
 ne:∀b,b≠LB->Z.heap[b]? =Y.heap[b]?
 sz:Z.heap.size=Y.heap.size
 os:Z.os=Y.os
 tape:Z.tape=Y.tape
 out:Z.output=Y.output
theorem Px.set {Y Z:World}{LB:Nat}{cs:Array Value}{t:TypeId}{i:Nat}{v:Value}(h:Px Y LB cs t Z):Px Y LB (cs.setIfInBounds i v) t (Z.setCell ⟨LB,i,none⟩ v):=by
 have hs:=(Below.refl LB Z).setCell (p:=⟨LB,i,none⟩) eU v;exact⟨heap_setCell_same Z LB i _ _ _ h.lb,fun b hb=>(Below.heap_setCell _ _ _ b hb).trans (h.ne b hb),(World.size_setCell _ _ _).trans h.sz,hs.os.trans h.os,hs.tape.trans h.tape,hs.output.trans h.out⟩
theorem Px.drew {Y Z:World}{LB:Nat}{cs:Array Value}{t:TypeId}(h:Px Y LB cs t Z):Px Y LB cs t Z.drew:=⟨h.lb,h.ne,h.sz,h.os,h.tape,h.out⟩
theorem Px.self {Y:World}{LB:Nat}{cs:Array Value}{t:TypeId}(h:Y.heap[LB]? =some (.cells cs t)):Px Y LB cs t Y:=⟨h,fun _ _=>rfl,rfl,rfl,rfl,rfl⟩
theorem Cg {w w':World}{base k n:Nat}{t:TypeId}{v:Value}{xs:List Value}(h:w.ownsRow base t k v n xs)(hs:∀(g:Nat) (cs:Array Value) (f:Nat×Nat),w.heap[g]? =some (Obj.cells cs t f)->w'.heap[g]? =w.heap[g]?):w'.ownsRow base t k v n xs:=
 bS h fun g hg=>by obtain⟨cs,f,h1, -⟩:=dJ h g hg;exact hs g cs f h1
theorem a0E {x:bZ}(h:iJ (dY x.pc)):x.pts.length<=1000:=by
 have h1:x.pts.length<=30:=h.1.1;omega
theorem a4w (a b:List bZ)(y:Nat):(!decide ((wZ (a.map bZ.pc) y).map nI=(wZ (b.map bZ.pc) y).map nI))=false↔sP ((a.map bZ.p5).filter fun x=>aC x.s.pts y)=sP ((b.map bZ.p5).filter fun x=>aC x.s.pts y):=by
 have e1:∀l:List bZ,sP ((l.map bZ.p5).filter fun x=>aC x.s.pts y)=(wZ (l.map bZ.pc) y).map dY:=fun l=>by
  rw[<- Mr,List.filter_map,List.map_map,sP,List.map_map,List.filter_map];rfl
 rw[e1,e1];simp only[Bool.not_eq_false',decide_eq_true_eq];constructor
 ·exact fun hh=>OL hh
 ·intro hh;have e2:∀l:List Pc,l.map nI=(l.map dY).map fun s=>(s.fill.toList,s.rule.toList,s.pts):=fun l=>by
   rw[List.map_map];refine List.map_congr_left fun x _=>?_;simp[nI,dY,ByteArray.toList_eq]
  rw[e2,e2,hh]
theorem a4x (hE:LE E W)(hl:Yu W LB B tg DB MB p M nx c r rl rv qs pv w h cv)(hw1:1<=w)(hw:w<=40)(AZ:1<=h)(hh:h<=40)(x:Ed)(AE RE:Prop)(AO:Dm->Nat->Nat->(Int->Nat)->Prop)(rl':List Rl)(a8x:∀y∈rl',RlG y)
  (hAp:∀N V qi qo vX p1,W.heap.size<=N->Below W.heap.size W V->gN N qi V qo vX p1 M nx c r->ak 29 #[aj qo,.agg (zg x)] V fun e w'=>Below N V w'/\((AE/\∃t u,e=.returned (.iface t u))\/(e=.returned .nilIface/\∃vz p2 M2 lN c2 r2,AO M2 lN c2 r2/\dP M2/\gN N vz w' qo vX p2 M2 lN c2 r2)))
  (hRb:∀V,Below W.heap.size W V->ak 30 #[rv,.agg (zg x)] V fun e w'=>Below V.heap.size V w'/\((RE/\∃u t y,e=.returned (.tuple #[u,.iface t y]))\/∃o n cp,e=.returned (.tuple #[.slice o n cp,.nilIface])/\w'.ownsRow B 110 3 (.slice o n cp) rl'.length (fH rl'))):
  ak 11 #[aj LB,.agg (zg x)] W fun e w'=>DoR W LB B tg DB MB p M nx c r rl rv qs pv w h cv AE RE AO rl' e w':=by
 obtain⟨GK,GL,Wj⟩:=aI hl.row;obtain⟨opv,cpv,hpv⟩:=aI hl.pc.own;obtain⟨Xj,Xk,hcv⟩:=aI hl.Xe;subst Wj hpv hcv;have b0:=aW W (.cells (zg x) 45);have kb:=dh W (zg x) 45;go_enter func11,ntmps11;go_upto_region 1 with fail;obtain⟨U,hU⟩:∃U,W.alloc (.cells (zg x) 45)=U:=⟨_,rfl⟩;rw[hU] at b0 kb⊢;clear hU;have hlU:=hl.below b0;have l0:=aA hlU.lb 0 _ rfl;have CL:ak 28 #[aj DB] U fun e w1=>∃qo vX qi p1,e=.returned (aj qo)/\Below U.heap.size U w1/\Hid (gN U.heap.size qi w1 qo vX p1 M nx c r):=(Sm hlU.ds.w hlU.ds.n (hl.ok.cl hl.ds)).mono fun e w1 ⟨h1,qo,vX,qi,p1,h2,h3⟩=>⟨qo,vX,qi,p1,h2,h1,h3,hl.ds.d,hl.ds.n,hl.ds.le,h1.size⟩;go_upto_region 2 with(go_at_call 28;refine CL.mono ?_;rintro e w1 ⟨qo,vX,qi,p1,rfl,b1,hd1⟩);have tV:=az b0 b1;have AP:=hAp U.heap.size w1 qi qo vX p1 b0.size tV hd1.out;have kb1:=(b1.block _ (aD kb)).trans kb;obtain⟨e0,e1,e2,e3,e4,e5⟩:=Yv.of kb1;clear l0 CL hlU hAp hd1;go_upto_region 3 with(go_at_call 29;refine AP.mono ?_;rintro e w2 ⟨b2,h2⟩;obtain⟨v2,rfl,hv2⟩:∃v,e=.returned v/\((AE/\∃t u,v=.iface t u)\/(v=.nilIface/\∃vz p2 M2 lN c2 r2,AO M2 lN c2 r2/\dP M2/\gN U.heap.size vz w2 qo vX p2 M2 lN c2 r2)):=(by rcases h2 with⟨k1,t,u,k2⟩|⟨k1,k2⟩;exact⟨_,k2,.inl ⟨k1,t,u,rfl⟩⟩;exact⟨_,k1,.inr ⟨rfl,k2⟩⟩);clear h2);clear AP e0 e1 e2 e3 e4 e5;have NY:Below W.heap.size W w2:=tV.trans (b2.mono b0.size);rcases hv2 with⟨ha,t,u,rfl⟩|⟨rfl,vz,p2,M2,lN,c2,r2,hao,hok2,hd2⟩
 ·go_wp2_with fail
  go_ret2
  exact .inl ⟨⟨t,u,rfl⟩,NY,hl.below NY,.inl ha⟩
 have sU:=aD kb;have kb2:w2.heap[W.heap.size]? =some (.cells (zg x) 45):=(b2.block _ sU).trans kb1;have k2:=Yv.of kb2;have lb2:=(NY.block _ (aD hl.lb)).trans hl.lb;have RB:=(hRb w2.drew (below_drewN NY 1)).mono (R':=fun e w3=>∃v u,e=.returned (.tuple #[v,u])/\Below w2.heap.size w2 w3/\((RE/\∃t y,u=.iface t y)\/(u=.nilIface/\∃o n cp,v=.slice o n cp/\w3.ownsRow B 110 3 (.slice o n cp) rl'.length (fH rl')))) fun e w3 ⟨q1,q2⟩=>by
  have q1':Below w2.heap.size w2 w3:=⟨q1.os,q1.tape,q1.output,q1.size,q1.block⟩;rcases q2 with⟨q2,u,t,y,q3⟩|⟨o,n,cp,q3,q4⟩
  ·exact⟨_,_,q3,q1',.inl ⟨q2,t,y,rfl⟩⟩
  ·exact⟨_,_,q3,q1',.inr ⟨rfl,o,n,cp,rfl,q4⟩⟩
 obtain⟨e0,e1,e2,e3,e4,e5⟩:=k2;have l1:=aA lb2 1 _ rfl;have HD2:Hid (gN U.heap.size vz w2 qo vX p2 M2 lN c2 r2):=hd2;have HL:Hid (Yu W LB B tg DB MB p M nx c r rl (.slice GK rl.length GL) qs (.slice opv qs.length cpv) w h (.slice Xj (w*h) Xk)):=hl;clear hRb hd2 hl kb kb1;go_upto_region 5 with fail
 go_cut [8,9] from 24 to 32 (fun v u wx=>Below w2.heap.size w2 wx/\((RE/\∃t y,u=.iface t y)\/(u=.nilIface/\∃o n cp,v=.slice o n cp/\wx.ownsRow B 110 3 (.slice o n cp) rl'.length (fH rl'))))
 case first=>
  go_region_with (go_at_call 30;refine RB.mono ?_;rintro e w3 ⟨v3,u3,rfl,b3,h3⟩)
  all_goals go_wp2_with fail
  all_goals go_meet
  all_goals exact⟨b3,h3⟩
 case rest=>
  clear RB l1 e0 e1 e2 e3 e4 e5;obtain⟨b3,h3⟩:=hcut;have wC:=az NY b3;rcases h3 with⟨hre,t,y,rfl⟩|⟨rfl,o3,n3,cp3,rfl,yK⟩
  ·go_wp2_with fail
   go_ret2
   exact .inl ⟨⟨t,y,rfl⟩,wC,HL.out.below wC,.inr (.inl hre)⟩
  have hd3:=HD2.out.below b3;have PI:=Cb (l:=rl') (B0:=B) ⟨hd3,(hE.below wC).ne,hok2.fit.1,hok2.fit.2,a8x,yK⟩;obtain⟨pm,hpm⟩:∃x,di M2 rl'=x:=⟨_,rfl⟩;rw[hpm] at PI;have Sk:Hid (di M2 rl'=pm):=hpm;clear hpm;cases pm with
  |error ft=>
   have PI':=PI.mono (R':=fun e w4=>∃pb,e=.returned (.tuple #[.slice none 0 0,.iface 113 (aj pb)])/\Below wc.heap.size wc w4) fun e w4 ⟨⟨u,h1,pb,_,h2,_⟩,h4⟩=>⟨pb,by rw[h1,h2],h4⟩;clear PI;go_wp2_with(go_at_call 26;refine PI'.mono ?_;rintro e w4 ⟨pb,rfl,b4⟩)
   go_ret2
   have bw4:=az wC b4;exact .inl ⟨⟨_,_,rfl⟩,bw4,HL.out.below bw4,.inr (.inr ⟨M2,lN,c2,r2,hao,fun⟨l,h1,_⟩=>by rw[Sk.out] at h1;exact absurd h1 (by simp)⟩)⟩
  |ok l=>
   have PI':=PI.mono (R':=fun e w4=>∃uG o4 n4 c4,e=.returned (.tuple #[.slice o4 n4 c4,.nilIface])/\Hid (uG.map bZ.pc=l)/\uA w4 wc.heap.size (.slice o4 n4 c4) uG/\Below wc.heap.size wc w4) fun e w' ⟨⟨qs,v,h1,h2,h3,h4,h5⟩,h6⟩=>by
    obtain⟨o,cp,rfl⟩:=aI h3;exact⟨qs,o,_,cp,h2,h1,⟨h3,h4,h5⟩,h6⟩
   clear PI;go_upto_region 11 with(go_at_call 26;refine PI'.mono ?_;rintro e w4 ⟨uG,o4,n4,c4,rfl,q4,p4,b4⟩);have bw4:=az wC b4;have lb4:=(bw4.block _ (aD HL.out.lb)).trans HL.out.lb;have l2:=aA lb4 2 _ rfl;have l4:=aA lb4 4 _ rfl;have hq2:uG.length<=1000:=by have h1:=Cc Sk.out;rw[<- q4.out,List.length_map] at h1;exact h1
   have ad3:∀y∈uG.map bZ.p5,y.s.pts.length<=1000:=fun y hy=>by
    obtain⟨z,hz,rfl⟩:=List.mem_map.1 hy;have h1:=Sq Sk.out z.pc (by rw[<- q4.out];exact List.mem_map_of_mem hz);exact Nat.le_trans h1 (by omega)
   have ad4:∀y∈qs.map bZ.p5,y.s.pts.length<=1000:=fun y hy=>by
    obtain⟨z,hz,rfl⟩:=List.mem_map.1 hy;exact a0E (HL.out.pk z hz)
   have CR:ak 31 #[.slice opv qs.length cpv,.slice o4 n4 c4,aa h] w4.drew fun e w5=>∃o n cp,e=.returned (.slice o n cp)/\w5.ownsRow w4.heap.size 3 1 (.slice o n cp) (Sr qs uG h).length (bY (Sr qs uG h))/\Below w4.heap.size w4 w5:=by
    obtain⟨oA,cA,hA1,hA2,hA3⟩:=(HL.out.pc.below (below_drewN bw4 1)).row;obtain⟨oB,cB,hB1,hB2,hB3⟩:=(p4.below (below_drewN (Below.refl _ _) 1)).row;rw[hA1,hB1];refine(yN (E 2) (E 3) (E 3) _ _ oA oB cA cB h (fun y=> !decide ((wZ (qs.map bZ.pc) y).map nI=(wZ (uG.map bZ.pc) y).map nI)) w4.drew (by rw[List.length_map];exact HL.out.ql) (by rw[List.length_map];exact hq2) hA2 hB2 hA3 hB3 ad4 ad3 (hE.below (below_drewN bw4 1)).ep.e3 (by omega) (a4w qs uG)).mono fun e w5 ⟨v,h1,h2,h3⟩=>?_;obtain⟨o,cp,rfl⟩:=aI h2;exact⟨o,_,cp,h1,h2,⟨h3.os,h3.tape,h3.output,h3.size,h3.block⟩⟩
   go_cut [11] from 45 to 55 (fun v wx=>∃o n cp,v=.slice o n cp/\wx.ownsRow w4.heap.size 3 1 (.slice o n cp) (Sr qs uG h).length (bY (Sr qs uG h))/\Below w4.heap.size w4 wx)
   case first=>
    go_region_with (go_at_call 31;refine CR.mono ?_;rintro e w5 ⟨o5,n5,c5,rfl,pQ,b5⟩)
    all_goals go_wp2_with fail
    all_goals go_meet
    all_goals exact⟨_,_,_,rfl,pQ,b5⟩
   case rest=>
    obtain⟨o5,n5,c5,rfl,pQ,b5⟩:=hcut;clear CR l2 l4;have bw5:=az bw4 b5;have lb5:=(bw5.block _ (aD HL.out.lb)).trans HL.out.lb;have l3:=aA lb5 3 _ rfl;have l4:=aA lb5 4 _ rfl;have l5:=aA lb5 5 _ rfl;have hup:=Vq (qs.map bZ.pc) (uG.map bZ.pc) h;have PA:ak 32 #[.agg #[aa w,aa h,.slice Xj (w*h) Xk],.slice o4 n4 c4,.slice o5 n5 c5] wc fun e w6=>Below wc.heap.size wc w6/\(((∀x∈uG,iJ (dY x.pc))/\∃g cp,e=.returned (.tuple #[.agg #[aa w,aa h,.slice (some ⟨g,0,none⟩) (w*h) cp],.nilIface])/\Hid (w6.ownsRow wc.heap.size 9 1 (.slice (some ⟨g,0,none⟩) (w*h) cp) (w*h) ((iZ aC ((uG.map bZ.pc).map dY) w h).map .string)))\/((¬∀x∈uG,iJ (dY x.pc))/\∃a,e=.returned (.tuple #[.agg #[aa 0,aa 0,.slice none 0 0],.iface 113 (.pointer (some a))]))):=by
     obtain⟨oB,cB,hB1,hB2,hB3⟩:=(p4.below b5).row;rw[hB1];refine(yM (E 2) (E 3) (E 3) (E 10) (uG.map bZ.p5) oB cB w h _ B (.slice Xj (w*h) Xk) (gL (qs.map bZ.pc) (uG.map bZ.pc) h) w4.heap.size (.slice o5 n5 c5) wc hw1 hw AZ hh (by rw[List.length_map];exact hq2) hB2 hB3 (hE.below bw5).ep (aK HL.out.Xe bw5) (gF _ _ _ _) (by simpa using pQ) (Nat.le_trans (List.length_filter_le _ _) (by rw[List.length_range];omega)) hup.2).mono fun e w6 ⟨h1,h2⟩=>⟨h2,?_⟩;have hok:jq (uG.map bZ.p5)↔∀x∈uG,iJ (dY x.pc):=by
      unfold jq;constructor
      ·intro hh x hx;exact hh _ (List.mem_map_of_mem hx)
      ·intro hh x hx;obtain⟨y,hy,rfl⟩:=List.mem_map.1 hx;exact hh y hy
     rcases h1 with⟨h3,v,h4,h5⟩|⟨h3,a,h4⟩
     ·obtain⟨g,cp,rfl, -, -⟩:=h5.form (Nat.mul_pos hw1 AZ);rw[a1M,<- EA,Vs] at h5;exact .inl ⟨hok.1 h3,g,cp,h4,h5⟩
     ·exact .inr ⟨fun hh=>h3 (hok.2 hh),a,h4⟩
    by_cases hk:∀x∈uG,iJ (dY x.pc)
    ·have PA':=PA.mono (R':=fun e w6=>∃g cp,e=.returned (.tuple #[.agg #[aa w,aa h,.slice (some ⟨g,0,none⟩) (w*h) cp],.nilIface])/\Below wc.heap.size wc w6/\Hid (w6.ownsRow wc.heap.size 9 1 (.slice (some ⟨g,0,none⟩) (w*h) cp) (w*h) ((iZ aC ((uG.map bZ.pc).map dY) w h).map .string))) fun e w6 ⟨h1,h2⟩=>by
      rcases h2 with⟨-,g,cp,h3,h4⟩|⟨h2, -⟩
      ·exact⟨g,cp,h3,h1,h4⟩
      ·exact absurd hk h2
     have HK:Hid (∀x∈uG,iJ (dY x.pc)):=hk;clear PA hk;go_upto_region 15 with(go_at_call 32;refine PA'.mono ?_;rintro e w6 ⟨g6,c6,rfl,b6,Le⟩);have bX:=aW w6 (.cells #[aa w,aa h,.slice (some ⟨g6,0,none⟩) (w*h) c6] 40);have pX:=dh w6 #[aa w,aa h,.slice (some ⟨g6,0,none⟩) (w*h) c6] 40;obtain⟨X,hX⟩:∃X,w6.alloc (.cells #[aa w,aa h,.slice (some ⟨g6,0,none⟩) (w*h) c6] 40)=X:=⟨_,rfl⟩;rw[hX] at bX pX⊢;have b5X:=az b6 bX;have b4X:=az b5 b5X;have b3X:=az b4 b4X;have We:=az bw5 b5X;have lbX:=(We.block _ (aD HL.out.lb)).trans HL.out.lb;have Xl:=(We.block _ (aD HL.out.ds.w.doc)).trans HL.out.ds.w.doc;have dX:=HD2.out.below (az b3 b3X);have d1X:=dX.w.doc;have hne:LB≠DB:=fun e1=>by rw[e1,Xl] at lbX;cases lbX
     have hLW:=aD HL.out.lb;have hDW:=aD HL.out.ds.w.doc;have hD1:=(dX.w.low _ _ dX.w.jP).1;have hPW:W.heap.size<=w6.heap.size:=(az bw5 b6).size;obtain⟨PB,hPB⟩:∃PB,w6.heap.size=PB:=⟨_,rfl⟩;rw[hPB] at pX hPW⊢;have x0:X.drew.cell? (ag LB 0)=some (aj DB):=aA lbX 0 _ rfl;have x1:X.drew.cell? (ag qo 0)=some (.map (some vX)):=aA d1X 0 _ rfl;have x2:X.drew.cell? (ag qo 1)=some (aa lN):=aA d1X 1 _ rfl;have x3:X.drew.cell? (ag DB 0)=some (.map (some MB)):=aA Xl 0 _ rfl;have x4:X.drew.cell? (ag DB 1)=some (aa nx):=aA Xl 1 _ rfl;have x5:X.drew.frozen? ⟨DB,0,none⟩=false:=dF Xl 0;have x6:X.drew.frozen? ⟨DB,1,none⟩=false:=dF Xl 1;have y0:X.cell? (ag LB 0)=some (aj DB):=aA lbX 0 _ rfl;have y1:X.cell? (ag qo 0)=some (.map (some vX)):=aA d1X 0 _ rfl;have y2:X.cell? (ag qo 1)=some (aa lN):=aA d1X 1 _ rfl;have y3:X.cell? (ag DB 0)=some (.map (some MB)):=aA Xl 0 _ rfl;have y4:X.cell? (ag DB 1)=some (aa nx):=aA Xl 1 _ rfl;have y5:X.frozen? ⟨DB,0,none⟩=false:=dF Xl 0;have y6:X.frozen? ⟨DB,1,none⟩=false:=dF Xl 1;have HX:Hid (w6.alloc (.cells #[aa w,aa h,.slice (some ⟨g6,0,none⟩) (w*h) c6] 40)=X):=hX;clear hX hPB;go_region;have yz:∃cs,Px X DB cs 85 ((X.setCell ⟨DB,0,none⟩ (.map (some vX))).setCell ⟨DB,1,none⟩ (aa lN)).drew/\cs=#[.map (some vX),aa lN]:=⟨_,((Px.self Xl).set.set).drew,rfl⟩;obtain⟨cs1,yz,hcs1⟩:=yz;subst hcs1;obtain⟨Y,hY⟩:∃Y,((X.setCell ⟨DB,0,none⟩ (.map (some vX))).setCell ⟨DB,1,none⟩ (aa lN)).drew=Y:=⟨_,rfl⟩;rw[hY] at yz⊢;clear hY x0 x1 x2 x3 x4 x5 x6 y0 y1 y2 y3 y4 y5 y6;have Xm:=(yz.ne LB hne).trans lbX;have pY:=(yz.ne PB (by omega)).trans pX;have a1R:∀Z,Px Y LB #[aj DB,.slice o3 n3 cp3,.slice o4 n4 c4,aa w,aa h,.slice (some ⟨g6,0,none⟩) (w*h) c6] 77 Z->DoR W LB B tg DB MB p M nx c r rl (.slice GK rl.length GL) qs (.slice opv qs.length cpv) w h (.slice Xj (w*h) Xk) AE RE AO rl' (.returned (.tuple #[.slice o5 n5 c5,.nilIface])) Z:=fun Z hz=>by
      have zn:∀b,b≠LB->b≠DB->Z.heap[b]? =X.heap[b]? :=fun b h1 h2=>(hz.ne b h1).trans (yz.ne b h2);have zs:Z.heap.size=X.heap.size:=hz.sz.trans yz.sz;have tyk:∀(g:Nat) (cs:Array Value) (t:TypeId) (f:Nat×Nat),X.heap[g]? =some (Obj.cells cs t f)->t≠77->t≠85->Z.heap[g]? =X.heap[g]? :=fun g cs t f h1 h2 h3=>zn g (fun e1=>by rw[e1,lbX] at h1;cases h1;exact h2 rfl) (fun e1=>by rw[e1,Xl] at h1;cases h1;exact h3 rfl);have dbZ:Z.heap[DB]? =some (.cells #[.map (some vX),aa lN] 85):=(hz.ne DB (fun e1=>hne e1.symm)).trans yz.lb;have hbB:B<=W.heap.size:=by have h1:=HL.out.base;omega
      have ad8:=(HL.out.ds.w.low _ _ HL.out.ds.w.jP).1;have zk:K2 LB DB W Z:=⟨hz.os.trans (yz.os.trans We.os),hz.tape.trans (yz.tape.trans We.tape),hz.out.trans (yz.out.trans We.output),by rw[zs];exact We.size,fun b hb h1 h2=>(zn b h1 h2).trans (We.block b hb)⟩;have hw:=dX.w.home (B':=B) (Z:=Z) (DB:=DB) ad8 (by have:=b0.size;omega) (fun b hb=>zn b (by have:=b0.size;omega) (by have:=b0.size;omega)) dbZ (by rw[zs];exact Nat.le_refl _);refine .inr ⟨_,vX,p2,M2,lN,c2,r2,.slice o3 n3 cp3,uG,.slice o4 n4 c4,.slice (some ⟨g6,0,none⟩) (w*h) c6,o5,n5,c5,hao,⟨l,Sk.out,fun y hy=>?_⟩,zk,rfl,?_,⟨hz.lb,HL.out.base,⟨hw,dX.d,dX.n,dX.le,by rw[zs];exact Nat.le_trans hbB We.size⟩,hok2,a8x,?_,⟨?_,fun y hy=>?_,p4.rt⟩,by rw[q4.out];exact Sk.out,HK.out,hq2,?_⟩⟩
      ·rw[<- q4.out] at hy;obtain⟨z,hz',rfl⟩:=List.mem_map.1 hy;exact HK.out z hz'
      ·exact eu (Cg (aK pQ b5X) fun g cs f hg=>tyk g cs _ f hg (by decide) (by decide)) bw4.size
      ·exact Cg (aK yK b3X) fun g cs f hg=>tyk g cs _ f hg (by decide) (by decide)
      ·exact eu (Cg (aK p4.own b4X) fun g cs f hg=>tyk g cs _ f hg (by decide) (by decide)) (Nat.le_trans hbB wC.size)
      ·exact eu (Cg (aK (p4.pts y hy) b4X) fun g cs f hg=>tyk g cs _ f hg (by decide) (by decide)) (Nat.le_trans hbB wC.size)
      ·exact eu (Cg (aK Le.out bX) fun g cs f hg=>tyk g cs _ f hg (by decide) (by decide)) (Nat.le_trans hbB bw5.size)
     have HFI:Hid (∀Z,Px Y LB #[aj DB,.slice o3 n3 cp3,.slice o4 n4 c4,aa w,aa h,.slice (some ⟨g6,0,none⟩) (w*h) c6] 77 Z->DoR W LB B tg DB MB p M nx c r rl (.slice GK rl.length GL) qs (.slice opv qs.length cpv) w h (.slice Xj (w*h) Xk) AE RE AO rl' (.returned (.tuple #[.slice o5 n5 c5,.nilIface])) Z):=a1R;clear a1R;have y1:=aA Xm 1 _ rfl;have y2:=aA Xm 2 _ rfl;have y3:=aA Xm 3 _ rfl;have y4:=aA Xm 4 _ rfl;have y5:=aA Xm 5 _ rfl;have f1:=dF Xm 1;have f2:=dF Xm 2;have f3:=dF Xm 3;have f4:=dF Xm 4;have f5:=dF Xm 5;have p1:=aA pY 0 _ rfl;have p2:=aA pY 1 _ rfl;have p3:=aA pY 2 _ rfl;have hpl:¬PB=LB:=by omega
     have hpl':¬LB=PB:=by omega
     go_upto_region 16 with fail;go_region;have hz:∃cs,Px Y LB cs 77 (((((Y.setCell ⟨LB,1,none⟩ (.slice o3 n3 cp3)).setCell ⟨LB,2,none⟩ (.slice o4 n4 c4)).setCell ⟨LB,3,none⟩ (aa w)).setCell ⟨LB,4,none⟩ (aa h)).setCell ⟨LB,5,none⟩ (.slice (some ⟨g6,0,none⟩) (w*h) c6)).drew/\cs=#[aj DB,.slice o3 n3 cp3,.slice o4 n4 c4,aa w,aa h,.slice (some ⟨g6,0,none⟩) (w*h) c6]:=⟨_,((Px.self Xm).set.set.set.set.set).drew,rfl⟩;obtain⟨cs2,hz,hcs2⟩:=hz;subst hcs2;have HZ:Hid (DoR W LB B tg DB MB p M nx c r rl (.slice GK rl.length GL) qs (.slice opv qs.length cpv) w h (.slice Xj (w*h) Xk) AE RE AO rl' (.returned (.tuple #[.slice o5 n5 c5,.nilIface])) (((((Y.setCell ⟨LB,1,none⟩ (.slice o3 n3 cp3)).setCell ⟨LB,2,none⟩ (.slice o4 n4 c4)).setCell ⟨LB,3,none⟩ (aa w)).setCell ⟨LB,4,none⟩ (aa h)).setCell ⟨LB,5,none⟩ (.slice (some ⟨g6,0,none⟩) (w*h) c6)).drew):=HFI.out _ hz;clear hz HFI;go_wp2_with fail
     go_ret2
     exact HZ.out
    ·have PA':=PA.mono (R':=fun e w6=>∃a,e=.returned (.tuple #[.agg #[aa 0,aa 0,.slice none 0 0],.iface 113 (.pointer (some a))])/\Below wc.heap.size wc w6) fun e w6 ⟨h1,h2⟩=>by
      rcases h2 with⟨h2, -⟩|⟨-,a,h3⟩
      ·exact absurd h2 hk
      ·exact⟨a,h3,h1⟩
     have EE:Hid (¬vW M2 rl'):=(fun⟨l',h1,h2⟩=>by
      rw[Sk.out] at h1;have h3:=Except.ok.inj h1;subst h3;exact hk (fun y hy=>h2 y.pc (by rw[<- q4.out];exact List.mem_map_of_mem hy)):¬vW M2 rl')
     clear PA hk;go_wp2_with(go_at_call 32;refine PA'.mono ?_;rintro e w6 ⟨a6,rfl,b6⟩)
     go_ret2
     have bw6:=az bw5 (az b6 (aW w6 (.cells #[aa 0,aa 0,.slice none 0 0] 40)));exact .inl ⟨⟨_,_,rfl⟩,bw6,HL.out.below bw6,.inr (.inr ⟨M2,lN,c2,r2,hao,EE.out⟩)⟩
end
end
end Go.Proofs.YtjfiehbcamfdfaaGreatDoor

/- Parts of the proof. -/
import Derived.Test.YtecneflbncjhpaaGreatDoorQp33
import Derived.Test.YtecneflbncjhpaaGreatDoorQp30
import Derived.Test.YtecneflbncjhpaaGreatDoorQp31
import Derived.Test.YtecneflbncjhpaaGreatDoorQp32
namespace Go.Proofs.YtecneflbncjhpaaGreatDoor
open Go.Proofs.Tryz
set_option maxHeartbeats 8000000
section
open Go.Sort
def oH {α:Type}(key:α->Int)(l:List α):List α:=(List.range 1000).flatMap (fun(k:Nat)=>l.filter (fun x=>key x==(k:Int)))
theorem UO {α β:Type}(key:β->Int)(g:α->β)(l:List α):(oH (fun x=>key (g x)) l).map g=oH key (l.map g):=by
 unfold oH;rw[List.map_flatMap];congr 1;funext k;rw[List.filter_map];rfl
theorem Mr {α:Type}{R:α->α->Prop}(ht:∀x y z,R x y->R y z->R x z)(hi:∀x,¬R x x):∀{l m:List α},l.Pairwise R->m.Pairwise R->(∀x,x∈l↔x∈m)->l=m
 |[],[],_,_,_=>rfl
 |[],y::m,_,_,h=>absurd ((h y).2 (by simp)) (by simp)
 |x::l,[],_,_,h=>absurd ((h x).1 (by simp)) (by simp)
 |x::l,y::m,h1,h2,h=>by
  rw[List.pairwise_cons] at h1 h2;have hxy:x=y:=by
   rcases List.mem_cons.1 ((h x).1 (by simp)) with e|e
   ·exact e
   ·rcases List.mem_cons.1 ((h y).2 (by simp)) with e'|e'
    ·exact e'.symm
    ·exact absurd (ht _ _ _ (h1.1 y e') (h2.1 x e)) (hi x)
  subst hxy;congr 1;refine Mr ht hi h1.2 h2.2 fun z=>⟨fun hz=>?_,fun hz=>?_⟩
  ·rcases List.mem_cons.1 ((h z).1 (by simp[hz])) with e|e
   ·subst e;exact absurd (h1.1 z hz) (hi z)
   ·exact e
  ·rcases List.mem_cons.1 ((h z).2 (by simp[hz])) with e|e
   ·subst e;exact absurd (h2.1 z hz) (hi z)
   ·exact e
section
variable {α:Type}[Inhabited α]{key:α->Int}{tag:α->Nat}
theorem tC {d:Array α}{x:α}:x∈d.toList↔InR d 0 d.size x:=by
 constructor
 ·intro h;obtain⟨i,hi,e⟩:=List.getElem_of_mem h;have hi':i<d.size:=by simpa using hi
  exact⟨i,aP _,hi',by rw[getElem!_pos d i hi'];simpa using e⟩
 ·rintro⟨i, -,hi,rfl⟩;rw[getElem!_pos d i hi];simp
theorem Z4 {R:α->α->Prop}{d:Array α}(h:∀i j,i<j->j<d.size->R d[i]! d[j]!):d.toList.Pairwise R:=by
 rw[List.pairwise_iff_getElem];intro i j hi hj hij;have hi':i<d.size:=by simpa using hi
 have hj':j<d.size:=by simpa using hj
 have:=h i j hij hj';rw[getElem!_pos d i hi',getElem!_pos d j hj'] at this;simpa using this
omit [Inhabited α] in
theorem Z5 {l:List α}(h:l.Pairwise (fun x y=>tag x<tag y)):(oH key l).Pairwise (yg key tag):=by
 unfold oH;rw[List.pairwise_flatMap];refine⟨fun k _=>?_,?_⟩
 ·have h1:=List.Pairwise.filter (fun x=>key x==(k:Int)) h;refine List.Pairwise.imp_of_mem (fun{a b} ha hb hr=>?_) h1;have e1:=(List.mem_filter.1 ha).2;have e2:=(List.mem_filter.1 hb).2;simp only[beq_iff_eq] at e1 e2;exact .inr ⟨e1.trans e2.symm,hr⟩
 ·refine List.Pairwise.imp (fun{a b} hab x hx y hy=>?_) List.pairwise_lt_range;have e1:=(List.mem_filter.1 hx).2;have e2:=(List.mem_filter.1 hy).2;simp only[beq_iff_eq] at e1 e2;exact .inl (by omega)
omit [Inhabited α] in
theorem UQ {l:List α}(h:∀x∈l,0<=key x/\key x<1000)(x:α):x∈oH key l↔x∈l:=by
 unfold oH;simp only[List.mem_flatMap,List.mem_range,List.mem_filter,beq_iff_eq];constructor
 ·rintro⟨k, -,h1, -⟩;exact h1
 ·intro hx;obtain⟨h1,h2⟩:=h x hx;exact⟨(key x).toNat,by omega,hx,by omega⟩
theorem UR {d e:Array α}(hm:uF d e 0 d.size)(hs:Lt key tag e 0 d.size)(ht:∀i,i<d.size->tag d[i]! =i)(hk:∀x∈d.toList,0<=key x/\key x<1000):e.toList=oH key d.toList:=by
 refine Mr (R:=yg key tag) (fun _ _ _ h h'=>h.trans h') (fun x h=>by unfold yg at h;omega) (Z4 fun i j h1 h2=>hs i j (aP _) h1 (by rw[<- hm.sz];exact h2)) (Z5 (Z4 fun i j h1 h2=>?_)) fun x=>?_
 ·rw[ht i (by omega),ht j h2];exact h1
 ·rw[UQ hk,tC,tC,hm.sz];exact hm.same x
end
end
section
open Go.RowKit Go.Shelf Go.Sort
theorem a6H (s:Bs):0<=G6 s/\G6 s<1000:=by
 unfold G6;split
 ·split
  ·next h=>omega
  ·omega
 ·omega
def EU (l:List Pc):Prop:=∀x∈l,0<=x.lv/\x.lv<1000
theorem Ru {α:Type}(g:Nat×List Pc->α->Except Ft (Nat×List Pc))(hg:∀s x s',g s x=.ok s'->EU s.2->EU s'.2):∀(l:List α) (s s':Nat×List Pc),l.foldlM g s=.ok s'->EU s.2->EU s'.2
 |[],s,s',h,h0=>by cases h;exact h0
 |x::l,s,s',h,h0=>by
  rw[List.foldlM_cons] at h;cases hx:g s x with
  |error e=>rw[hx] at h;cases h
  |ok t=>
   rw[hx] at h;exact Ru g hg l t s' h (hg s x t hx h0)
theorem IU (M:Dm)(l:List Rl):∀(f:Nat) (n:Int) (path:List Int) (m:Mv) (st s':Nat×List Pc),dM M l f n path m st=.ok s'->EU st.2->EU s'.2
 |0,n,path,m,st,s',h,_=>by
  unfold dM at h;split at h<;>cases h
 |f+1,n,path,m,st,s',h,h0=>by
  unfold dM at h;split at h
  ·cases h
  split at h
  ·cases h
  split at h
  ·cases h;exact h0
  have PC:∀(m':Mv) (x:Except Nat (List Qt)),iF M l n m' x (st.1+1,st.2)=.ok s'->EU s'.2:=fun m' x h=>by
   unfold iF at h;split at h
   ·cases h
   ·split at h
    ·cases h
    ·split at h
     ·cases h;exact h0
     ·cases h;intro y hy;rcases List.mem_append.1 hy with hy|hy
      ·exact h0 y hy
      ·simp at hy;subst hy;exact a6H _
  split at h
  ·cases h
  ·split at h
   ·exact PC _ _ h
   ·split at h
    ·exact PC _ _ h
    ·split at h
     ·exact Ru _ (fun s x s' h=>IU M l f x _ _ s s' h) _ (st.1+1,st.2) s' h h0
     ·split at h
      ·cases h
      ·exact IU M l f _ _ _ (st.1+1,st.2) s' h h0
theorem Ms {α:Type}{k1 k2:α->Int}{l:List α}(h:∀x∈l,k1 x=k2 x):oH k1 l=oH k2 l:=by
 unfold oH;congr 1;funext k;exact List.filter_congr fun x hx=>by rw[h x hx]
instance:Inhabited dI:=⟨⟨0,none,0,[],[],[],0⟩⟩
def a2B (i:Nat)(x:dI):S5:=⟨x.nd,x.o,x.pts.length,x.cap,⟨x.fill.toArray⟩,⟨x.rule.toArray⟩,x.lv,i⟩
def d5 (ps:List dI):Array S5:=(ps.mapIdx a2B).toArray
theorem Ag (ps:List dI):(d5 ps).size=ps.length:=by simp[d5]
theorem yC (ps:List dI)(i:Nat)(hi:i<ps.length):(d5 ps)[i]! =a2B i ps[i]:=by
 rw[getElem!_pos _ i (by rw[Ag];exact hi)];simp[d5]
theorem Dt:∀(ps:List dI) (i c:Nat) (hi:i<ps.length),c<5->(cellsS ps)[i*5+c]? =([aa ps[i].nd,Di ps[i],bV ps[i].fill,bV ps[i].rule,aa ps[i].lv]:List ah)[c]?
 |[],i,c,hi,_=>absurd hi (by simp)
 |x::ps,0,c,_,hc=>by
  rw[Nat.zero_mul,Nat.zero_add];unfold cellsS
  match c,hc with
  |0,_=>rfl
  |1,_=>rfl
  |2,_=>rfl
  |3,_=>rfl
  |4,_=>rfl
 |x::ps,i+1,c,hi,hc=>by
  have:=Dt ps i c (by simpa using hi) hc;rw[show(i+1)*5+c=i*5+c+1+1+1+1+1 from by omega];unfold cellsS;simpa using this
theorem Du (d:Array S5)(ps:List dI)(hs:d.size=ps.length)(h:∀i (hi:i<ps.length),uG d[i]! =[aa ps[i].nd,Di ps[i],bV ps[i].fill,bV ps[i].rule,aa ps[i].lv]):(flatK uG 5 d).toList=cellsS ps:=by
 apply List.ext_getElem?;intro t;by_cases ht:t<ps.length*5
 ·have h1:t<(flatK uG 5 d).size:=by rw[size_flatK,hs];exact ht
  have hi:t/5<ps.length:=by omega
  have hc:t % 5<5:=Nat.mod_lt _ (by omega);have h2:=get_flatK uG 5 d t (by rw[hs];exact ht);rw[getElem!_pos _ t h1,h (t/5) hi] at h2;have h3:=Dt ps (t/5) (t % 5) hi hc;rw[show t/5*5+t % 5=t from by omega] at h3;rw[h3,Array.getElem?_toList,Array.getElem?_eq_getElem h1,h2];rw[getElem!_pos _ (t % 5) (by simpa using hc)];exact(dK _).symm
 ·rw[List.getElem?_eq_none (by simp[hs];omega),List.getElem?_eq_none (by rw[vC];omega)]
theorem Z6 (F cur:Array ah)(h:F.size<=cur.size):(putCells id 0 F cur).toList.take F.size=F.toList:=by
 apply List.ext_getElem?;intro k;rw[List.getElem?_take];split
 ·next hk=>
  have hkc:k<cur.size:=by omega
  unfold putCells;rw[Array.getElem?_toList,Array.getElem?_mapIdx,Array.getElem?_eq_getElem hkc,Array.getElem?_toList,Array.getElem?_eq_getElem hk];simp only[Option.map_some,aP,true_and,Nat.zero_add,Nat.sub_zero,id_eq,if_pos hk];rw[getElem!_pos _ k hk]
 ·next hk=>rw[List.getElem?_eq_none (by simp;omega)]
theorem IW {base:Nat}{W:ag}{g cap:Nat}{cur:Array ah}(ps:List dI)(hl:ps.length<=1000)(hlv:∀x∈ps,0<=x.lv/\x.lv<1000)(hb:base<=g)(hc:W.heap[g]? =some (.cells cur 134))(h6:ps.length<=cap)(h7:cap<=maxLen)(h8:cur.size=cap*5)(h9:cur.toList.take (ps.length*5)=cellsS ps):
  au 52 #[.slice (some ⟨g,0,none⟩) ps.length cap,pR] W fun e w'=>e=.returned (.tuple #[])/\∃qs:List dI,qs.map dI.pc=uD (ps.map dI.pc)/\qs.length=ps.length/\(∀x∈qs,x∈ps)/\w'.ownsRow base 134 5 (.slice (some ⟨g,0,none⟩) ps.length cap) qs.length (cellsS qs)/\W.grownBy w' (some g):=by
 have hfl:(flatK uG 5 (d5 ps)).toList=cellsS ps:=Du _ ps (Ag ps) (fun i hi=>by rw[yC ps i hi];rfl);have hH:HoldsK uG 5 W g 0 (d5 ps):=fun j hj=>by
  refine⟨?_,aR hc _⟩;rw[Nat.zero_add];refine aD hc j _ ?_;have hj':j<ps.length*5:=by rw[size_flatK,Ag] at hj;exact hj
  have h1:(cur.toList.take (ps.length*5))[j]? =(flatK uG 5 (d5 ps)).toList[j]? :=by rw[h9,hfl]
  rw[List.getElem?_take,if_pos hj',Array.getElem?_toList,Array.getElem?_toList,Array.getElem?_eq_getElem hj] at h1;rw[h1,getElem!_pos _ j hj];rfl
 have hsz:=Ag ps;have SS:=Cr (bu hc) hH (by rw[hsz];exact hl) (fun i hi=>by rw[yC ps i (by rw[<- hsz];exact hi)];rfl) cap;rw[hsz] at SS;refine SS.mono fun e w' hr=>?_;obtain⟨he,d',hp,m,os,hw⟩:=hr;refine⟨he,?_⟩;have hz':d'.size=ps.length:=hp.mv.sz.trans hsz;have hmem:∀x,InR d' 0 ps.length x->∃(j:Nat) (hj:j<ps.length),x=a2B j ps[j]:=fun x hx=>by
  obtain⟨j, -,hj,hjx⟩:=(hp.mv.same x).1 hx;exact⟨j,hj,by rw[<- hjx,yC ps j hj]⟩
 have hback:∀x∈d'.toList,∃(hj:x.tag<ps.length),x=a2B x.tag ps[x.tag]:=fun x hx=>by
  have h1:=tC.1 hx;rw[hz'] at h1;obtain⟨j,hj,rfl⟩:=hmem x h1;exact⟨hj,rfl⟩
 have hqs:(d'.toList.map fun x=>ps[x.tag]!).length=ps.length:=by rw[List.length_map,Array.length_toList,hz']
 refine⟨d'.toList.map fun x=>ps[x.tag]!,?_,hqs,?_,?_,?_⟩
 ·have hm:=hp.mv;have hs:=hp.s;rw[<- hsz] at hm hs;have hst:=UR hm hs (fun i hi=>by rw[yC ps i (by rw[<- hsz];exact hi)];rfl) (fun x hx=>by
   obtain⟨j, -,hj,rfl⟩:=tC.1 hx;rw[hsz] at hj;rw[yC ps j hj];exact hlv _ (List.getElem_mem hj))
  rw[hst,List.map_map];have hk:∀x∈(d5 ps).toList,S5.lv x=Pc.lv ((dI.pc∘fun x:S5=>ps[x.tag]!) x):=fun x hx=>by
   obtain⟨j, -,hj,rfl⟩:=tC.1 hx;rw[hsz] at hj;rw[yC ps j hj];show ps[j].lv=(ps[j]!).lv;rw[getElem!_pos ps j hj]
  rw[Ms hk,UO Pc.lv];show oH Pc.lv _=oH Pc.lv _;congr 1;apply List.ext_getElem?;intro i;rw[List.getElem?_map,List.getElem?_map];unfold d5;rw[List.toList_toArray,List.getElem?_mapIdx];cases hx:ps[i]? with
  |none=>rfl
  |some x=>
   obtain⟨hi,rfl⟩:=jc.1 hx;show some (dI.pc ps[i]!)=some (dI.pc ps[i]);rw[getElem!_pos ps i hi]
 ·intro x hx;obtain⟨y,hy,rfl⟩:=List.mem_map.1 hx;obtain⟨hj, -⟩:=hback y hy;show ps[y.tag]!∈ps;rw[getElem!_pos ps _ hj];exact List.getElem_mem hj
 ·have afa:(flatK uG 5 d').toList=cellsS (d'.toList.map fun x=>ps[x.tag]!):=Du d' _ (by rw[hqs,hz']) (fun i hi=>by
   have hi':i<d'.size:=by rw[hqs] at hi;rw[hz'];exact hi
   obtain⟨hj,hx⟩:=hback d'[i]! (tC.2 ⟨i,aP _,hi',rfl⟩);have hg:(d'.toList.map fun x=>ps[x.tag]!)[i]=ps[d'[i]!.tag]:=by
    rw[List.getElem_map];have h2:d'.toList[i]'(by simpa using hi')=d'[i]! :=by rw[getElem!_pos d' i hi'];simp
    rw[h2];exact getElem!_pos ps _ hj
   rw[hg]
   conv=>lhs;rw[hx]
   rfl)
  have hgr:W.heap.size=(putRowK uG 5 (Sort.ahead W m) g 0 d').heap.size:=by
   unfold putRowK;rw[size_putRow];rfl
  have hat:w'.heap[g]? =some (.cells (putCells id 0 (flatK uG 5 d') cur) 134):=by
   rw[hw];unfold sortWorldK grow;rw[Array.getElem?_append_left (by rw[<- hgr];exact bu hc)];unfold putRowK putRow mapBlock;rw[Array.getElem?_modify,if_pos rfl];show Option.map _ (W.heap[g]?)=_;rw[hc];rfl
  have hF:(flatK uG 5 d').size=ps.length*5:=by rw[size_flatK,hz']
  rw[hqs];refine⟨by rw[vC,hqs],.inr ⟨g,cap,_,rfl,hb,hat,h6,h7,?_,?_⟩⟩
  ·unfold putCells;rw[Array.size_mapIdx];exact h8
  ·rw[<- afa,<- hF];exact Z6 _ cur (by rw[hF,h8];omega)
 ·have hgr:W.heap.size=(putRowK uG 5 (Sort.ahead W m) g 0 d').heap.size:=by
   unfold putRowK;rw[size_putRow];rfl
  rw[hw];refine⟨rfl,rfl,rfl,?_,fun x hx hne=>?_⟩
  ·unfold sortWorldK grow;show W.heap.size<=((putRowK uG 5 (Sort.ahead W m) g 0 d').heap++os).size;rw[Array.size_append,<- hgr];omega
  ·unfold sortWorldK grow;show((putRowK uG 5 (Sort.ahead W m) g 0 d').heap++os)[x]? =_;rw[Array.getElem?_append_left (by rw[<- hgr];exact hx)];unfold putRowK putRow mapBlock;show(W.heap.modify g _)[x]? =_;rw[Array.getElem?_modify,if_neg (fun e1=>hne (by rw[e1]))]
theorem a2C (W:ag):au 148 #[.slice none 0 0,aa 0,aa 0,pR] W fun e w'=>e=.returned (.tuple #[])/\w'=W:=by
 go_enter func148,ntmps148;go_wp2_with fail
 go_loopw [8] (fun y wr=>y=aa 1/\wr=W) (fun _ _=>0)
 case atStart=>exact⟨rfl,rfl⟩
 case round=>
  obtain⟨rfl,rfl⟩:=hrel;go_wp2_with fail
  go_end0
  exact⟨rfl,rfl⟩
theorem PG (W:ag):au 94 #[.slice none 0 0,aa 0,pR] W fun e w'=>e=.returned (.tuple #[])/\w'=W:=by
 have IN:au 148 #[.slice none 0 0,aa 0,aa 0,pR] W fun e w'=>e=.returned (.tuple #[])/\W=w':=(a2C W).mono fun _ _ h=>⟨h.1,h.2.symm⟩;go_enter func94,ntmps94;go_upto_region 2 with fail
 go_loopw [7,8] (fun x y wr=>x=aa 0/\y=aa 20/\wr=W) (fun _ _ _=>0)
 case atStart=>exact⟨rfl,rfl,rfl⟩
 case round=>
  obtain⟨rfl,rfl,rfl⟩:=hrel;go_wp2_with(go_at_call 148;refine IN.mono ?_;rintro e w1 ⟨rfl,rfl⟩)
  go_loopw [6] (fun x w2=>x=aa 20/\w2=wr) (fun _ _=>0)
  case atStart=>exact⟨rfl,rfl⟩
  case round=>
   obtain⟨rfl,rfl⟩:=hrel;go_wp2_with fail
   go_end0
   exact⟨rfl,rfl⟩
theorem Z7 (W:ag):au 52 #[.slice none 0 0,pR] W fun e w'=>e=.returned (.tuple #[])/\w'=W:=by
 have SA:=PG W;go_enter func52,ntmps52;go_wp2_with(go_at_call 94;refine SA.mono ?_;rintro e w1 ⟨rfl,rfl⟩)
 go_end0
 exact⟨rfl,rfl⟩
theorem a2D {base:Nat}{W:ag}{v:ah}(ps:List dI)(hl:ps.length<=1000)(hlv:∀x∈ps,0<=x.lv/\x.lv<1000)(ho:W.ownsRow base 134 5 v ps.length (cellsS ps)):
  au 52 #[v,pR] W fun e w'=>e=.returned (.tuple #[])/\∃qs:List dI,qs.map dI.pc=uD (ps.map dI.pc)/\qs.length=ps.length/\(∀x∈qs,x∈ps)/\w'.ownsRow base 134 5 v qs.length (cellsS qs)/\W.grownBy w' v.ownBlock:=by
 obtain⟨h1,h2⟩:=id ho;rcases h2 with⟨rfl,h3⟩|⟨g,cap,cur,rfl,h3,h4,h5,h6,h7,h8⟩
 ·obtain rfl:ps=[]:=iC.1 h3;refine(Z7 W).mono fun e w' ⟨h4,h5⟩=>⟨h4,[],by simp[uD],rfl,fun x hx=>hx,by rw[h5];exact ho,?_⟩;rw[h5];exact⟨rfl,rfl,rfl,Nat.le_refl _,fun _ _ _=>rfl⟩
 ·exact IW ps hl hlv h3 h4 h5 h6 h7 h8
def a2E (E:Nat->Addr)(W:ag)(x:Except Ft (List Pc))(e:Ending)(w':ag):Prop:=match x with
 | .error f=>∃u,e=.returned (.tuple #[.slice none 0 0,u])/\VE E f W.heap.size u w'
 | .ok l=>∃qs v,qs.map dI.pc=l/\e=.returned (.tuple #[v,.nilIface])/\w'.ownsRow W.heap.size 134 5 v qs.length (cellsS qs)/\(∀x∈qs,iM w' W.heap.size (Di x) x.pts)/\∀x∈qs,∀a∈x.pts,fT a=0
end
section
open Go.RowKit Go.Shelf Go.Sort
set_option maxRecDepth 20000
theorem Mt {α:Type}(g:Nat×List Pc->α->Except Ft (Nat×List Pc))(hg:∀s x s',g s x=.ok s'->s.1<=100->s'.1<=100):∀(l:List α) (s s':Nat×List Pc),l.foldlM g s=.ok s'->s.1<=100->s'.1<=100
 |[],s,s',h,h0=>by cases h;exact h0
 |x::l,s,s',h,h0=>by
  rw[List.foldlM_cons] at h;cases hx:g s x with
  |error e=>rw[hx] at h;cases h
  |ok t=>
   rw[hx] at h;exact Mt g hg l t s' h (hg s x t hx h0)
theorem xk (M:Dm)(l:List Rl):∀(f:Nat) (n:Int) (path:List Int) (m:Mv) (st s':Nat×List Pc),dM M l f n path m st=.ok s'->st.1<=100->s'.1<=100
 |0,n,path,m,st,s',h,_=>by
  unfold dM at h;split at h<;>cases h
 |f+1,n,path,m,st,s',h,_=>by
  unfold dM at h;split at h
  ·cases h
  split at h
  ·cases h
  next _ hc=>
  have h1:st.1+1<=100:=by omega
  split at h
  ·cases h;exact h1
  have PC:∀(m':Mv) (x:Except Nat (List Qt)),iF M l n m' x (st.1+1,st.2)=.ok s'->s'.1<=100:=fun m' x h=>by
   unfold iF at h;split at h
   ·cases h
   ·split at h
    ·cases h
    ·split at h<;>cases h<;>exact h1
  split at h
  ·cases h
  ·split at h
   ·exact PC _ _ h
   ·split at h
    ·exact PC _ _ h
    ·split at h
     ·exact Mt _ (fun s x s' h=>xk M l f x _ _ s s' h) _ (st.1+1,st.2) s' h h1
     ·split at h
      ·cases h
      ·exact xk M l f _ _ _ (st.1+1,st.2) s' h h1
theorem Z8 {E:Nat->Addr}{W w2:ag}{WB DB:Nat}{sf:ah}{k:Nat}{ps:List dI}{v:ah}(hb:Below W.heap.size W w2)(hs:Sc W.heap.size WB DB sf k ps v w2)(hl:ps.length<=1000)(hlv:EU (ps.map dI.pc)):
  au 52 #[v,pR] w2 fun e w3=>e=.returned (.tuple #[])/\w3.cell? (ak WB 3)=some v/\Hid (a2E E W (.ok (uD (ps.map dI.pc))) (.returned (.tuple #[v,.nilIface])) w3/\Below W.heap.size W w3):=by
 refine(a2D ps hl (fun x hx=>hlv x.pc (List.mem_map_of_mem hx)) hs.own).mono fun e w3 ⟨h1,qs,h2,h3,h4,h5,gr⟩=>?_;have neW:v.ownBlock≠some WB:=fun e1=>by
  obtain⟨cs,f,h6, -⟩:=dS hs.own WB e1;rw[hs.wb] at h6;cases h6
 have kW:=(gr.block WB (bu hs.wb) (fun e1=>neW e1.symm)).trans hs.wb;refine⟨h1,aD kW 3 _ rfl,⟨qs,v,h2,rfl,h5,fun x hx=>?_,fun x hx=>hs.rt x (h4 x hx)⟩,hb.grown gr hb.size (fun j hj=>?_)⟩
 ·have ho:=hs.pts x (h4 x hx);refine bS ho fun g hg=>?_;obtain⟨cs,f,h6, -⟩:=dS ho g hg;refine gr.block g (bu h6) (fun e1=>?_);obtain⟨cs',f',h7, -⟩:=dS hs.own g e1.symm;rw[h6] at h7;cases h7
 ·obtain⟨-, -, -,h6⟩:=dS hs.own j hj;exact h6
section
variable {E:Nat->Addr}{B:Nat}{tg:bP}{W:ag}{DB MB:Nat}{p:Int->Option Nat}{M:Dm}{nx c:Nat}{r:Int->Nat}{l:List Rl}{B0:Nat}{rv:ah}
abbrev oD (DB:Nat):Obj:=.cells #[ay DB] 55
abbrev Mw (rv:ah):Obj:=.cells #[rv] 58
abbrev oW (DB H:Nat):Obj:=.cells #[ay DB,tV H (H+1),aa 0,.slice none 0 0] 119
abbrev oP:Obj:=.cells (plA (-1) (.pointer none) .one) 128
theorem Rv (W w1:ag)(hb:Below (((W.alloc (oD DB)).alloc (Mw rv)).alloc (oW DB W.heap.size)).heap.size (((W.alloc (oD DB)).alloc (Mw rv)).alloc (oW DB W.heap.size)) w1):xw (W.heap.size+2) DB W.heap.size (W.heap.size+1) rv W 0 [] (.slice none 0 0) w1:=by
 have b1:=bT W (oD DB);have b2:=bT (W.alloc (oD DB)) (Mw rv);have b3:=bT ((W.alloc (oD DB)).alloc (Mw rv)) (oW DB W.heap.size);have k1:=dw W #[ay DB] 55;have k2:=dw (W.alloc (oD DB)) #[rv] 58;have k3:=dw ((W.alloc (oD DB)).alloc (Mw rv)) #[ay DB,tV W.heap.size (W.heap.size+1),aa 0,.slice none 0 0] 119;have z1:(W.alloc (oD DB)).heap.size=W.heap.size+1:=dB _ _;have z2:((W.alloc (oD DB)).alloc (Mw rv)).heap.size=W.heap.size+2:=by rw[dB,z1]
 have tH:=aH b2 (aH b3 hb);refine⟨aH b1 tH,Nat.le_add_right _ _,(tH.block _ (bu k1)).trans k1,?_,⟨?_,eH _ _ _ _,fun x hx=>(by cases hx),fun x hx=>(by cases hx)⟩⟩
 ·rw[z1] at k2;have:=((aH b3 hb).block _ (bu k2)).trans k2;exact this
 ·rw[z2] at k3;exact(hb.block _ (bu k3)).trans k3
theorem Dv (h:En E B tg W DB MB p M nx c r l B0 rv):
  au 22 #[ay DB,rv] W fun e w'=>a2E E W (dV M l) e w'/\Below W.heap.size W w':=by
 have ON:=pG (((W.alloc (oD DB)).alloc (Mw rv)).alloc (oW DB W.heap.size));obtain⟨Nk,Nl,OE⟩:=aM h.row;subst OE;have CM:∀w1,Below (((W.alloc (oD DB)).alloc (Mw (.slice Nk l.length Nl))).alloc (oW DB W.heap.size)).heap.size (((W.alloc (oD DB)).alloc (Mw (.slice Nk l.length Nl))).alloc (oW DB W.heap.size)) w1->au 50 #[.pointer (some ⟨W.heap.size+2,0,none⟩),aa 0,ay w1.heap.size] (w1.alloc oP) fun e w'=>jo E W.heap.size (W.heap.size+2) DB (tV W.heap.size (W.heap.size+1)) (.slice none 0 0) (w1.alloc oP) (dM M l 101 0 [-1] .one (0,[])) e w'/\Kw (W.heap.size+2) (.slice none 0 0) (w1.alloc oP) w':=fun w1 hb=>
  Mq h 101 0 [] (.slice none 0 0) (w1.alloc oP) 0 (-1) .one [] w1.heap.size (by omega) ai (by decide) (Rv W _ (aH hb (bT _ _))) ⟨_,none,rfl,dw _ _ _,rfl⟩ BJ
 have WK:∀w1,Below (((W.alloc (oD DB)).alloc (Mw (.slice Nk l.length Nl))).alloc (oW DB W.heap.size)).heap.size (((W.alloc (oD DB)).alloc (Mw (.slice Nk l.length Nl))).alloc (oW DB W.heap.size)) w1->xw (W.heap.size+2) DB W.heap.size (W.heap.size+1) (.slice Nk l.length Nl) W 0 [] (.slice none 0 0) (w1.alloc oP):=fun w1 hb=>Rv W _ (aH hb (bT _ _));have a6I:Hid (∀st,dM M l 101 0 [-1] .one (0,[])=.ok st->st.2.length<=1000/\EU st.2/\dV M l=.ok (uD st.2)):=(fun st hst=>by
  have h1:=rT M l 101 0 [-1] .one (0,[]) st hst ai;have h2:=xk M l 101 0 [-1] .one (0,[]) st hst (aP _);refine⟨by omega,IU M l 101 0 [-1] .one (0,[]) st hst (fun x hx=>(by cases hx)),?_⟩;unfold dV;rw[hst]:∀st,dM M l 101 0 [-1] .one (0,[])=.ok st->st.2.length<=1000/\EU st.2/\dV M l=.ok (uD st.2))
 have a6J:Hid (∀ft,dM M l 101 0 [-1] .one (0,[])=.error ft->dV M l=.error ft):=(fun ft hst=>by unfold dV;rw[hst]:∀ft,dM M l 101 0 [-1] .one (0,[])=.error ft->dV M l=.error ft);have k1:=bK (Mw (.slice Nk l.length Nl)) (iJ W #[ay DB] 55 0 _ rfl);have hW0:Hid (Below W.heap.size W (((W.alloc (oD DB)).alloc (Mw (.slice Nk l.length Nl))).alloc (oW DB W.heap.size))):=aH (bT _ _) (aH (bT _ _) (bT _ _));clear h;obtain⟨res,hres⟩:∃x,dM M l 101 0 [-1] .one (0,[])=x:=⟨_,rfl⟩;rw[hres] at CM;cases res with
 |error ft=>
  have HP:=a6J.out ft hres;rw[HP];have CM':∀w1,Below (((W.alloc (oD DB)).alloc (Mw (.slice Nk l.length Nl))).alloc (oW DB W.heap.size)).heap.size (((W.alloc (oD DB)).alloc (Mw (.slice Nk l.length Nl))).alloc (oW DB W.heap.size)) w1->au 50 #[.pointer (some ⟨W.heap.size+2,0,none⟩),aa 0,ay w1.heap.size] (w1.alloc oP) fun e w'=>∃pb,e=.returned (.iface 90 (ay pb))/\Hid (VE E ft (w1.alloc oP).heap.size (.iface 90 (ay pb)) w'/\Below W.heap.size W w'):=fun w1 hb=>(CM w1 hb).mono fun e w' ⟨⟨u,h1,h2⟩,h3⟩=>by
   obtain⟨pb,h4,rfl,h5⟩:=h2;exact⟨pb,h1,⟨pb,h4,rfl,h5⟩,(WK w1 hb).low.trans ((WK w1 hb).sc.low h3 (WK w1 hb).wb (WK w1 hb).low.size)⟩
  clear CM WK a6I a6J hres HP;go_enter func22,ntmps22;go_wp2_with(first|(go_at_call 51;refine ON.mono ?_;rintro e w1 ⟨rfl,b1⟩;have C1:=CM' w1 b1)|(go_at_call 50;refine C1.mono ?_;rintro e w2 ⟨pb,rfl,h2⟩))
  go_ret2
  obtain⟨h3,h4⟩:=h2.out;have hs:=(aH (aH hW0.out b1) (bT w1 oP)).size;exact⟨⟨_,rfl,h3.low hs⟩,h4⟩
 |ok st=>
  obtain⟨hlen,hlv,HP⟩:=a6I.out st hres;rw[HP];have CM':∀w1,Below (((W.alloc (oD DB)).alloc (Mw (.slice Nk l.length Nl))).alloc (oW DB W.heap.size)).heap.size (((W.alloc (oD DB)).alloc (Mw (.slice Nk l.length Nl))).alloc (oW DB W.heap.size)) w1->au 50 #[.pointer (some ⟨W.heap.size+2,0,none⟩),aa 0,ay w1.heap.size] (w1.alloc oP) fun e w'=>e=.returned .nilIface/\∃o n cp,w'.cell? ⟨W.heap.size+2,3,none⟩=some (.slice o n cp)/\au 52 #[.slice o n cp,pR] w' fun e w3=>e=.returned (.tuple #[])/\w3.cell? ⟨W.heap.size+2,3,none⟩=some (.slice o n cp)/\Hid (a2E E W (.ok (uD st.2)) (.returned (.tuple #[.slice o n cp,.nilIface])) w3/\Below W.heap.size W w3):=fun w1 hb=>(CM w1 hb).mono fun e w' ⟨⟨h1,ps2,v2,h2,h3,h4⟩,h5⟩=>by
   obtain⟨o,cp,hv⟩:=aM h3.own;subst hv;have hlow:Below W.heap.size W w':=(WK w1 hb).low.trans ((WK w1 hb).sc.low h5 (WK w1 hb).wb (WK w1 hb).low.size);have SE:=Z8 (E:=E) hlow h3 (by have h6:=congrArg List.length h2;rw[List.length_map] at h6;omega) (by rw[h2];exact hlv);rw[h2] at SE;exact⟨h1,o,_,cp,aD h3.wb 3 _ rfl,SE⟩
  clear CM WK a6I a6J hres HP;go_enter func22,ntmps22;go_wp2_with(first|(go_at_call 51;refine ON.mono ?_;rintro e w1 ⟨rfl,b1⟩;have C1:=CM' w1 b1)|(go_at_call 50;refine C1.mono ?_;rintro e w2 ⟨rfl,o,nn,cp,c3,S3⟩)|(go_at_call 52;refine S3.mono ?_;rintro e w3 ⟨rfl,c4,h2⟩))
  go_ret2
  exact h2.out
end
end
section
open Go.RowKit
structure LE (E:Nat->Addr)(w:ag):Prop where
 ne:NE E w
 de:DE E w
 ty:w.cell? (ak 11 0)=some (.iface 235 (.agg #[hE]))
section
variable {E:Nat->Addr}{w w':ag}
theorem LE.ce (h:LE E w):CE E w:=⟨h.de.c4,h.de.c6,h.de.c7,h.de.c8,h.de.c10⟩
theorem LE.ep (h:LE E w):EP (E 2) (E 3) (E 3) (E 10) w:=⟨⟨h.de.c2,h.de.c3,rfl⟩,h.de.c10,h.ty⟩
theorem LE.below (h:LE E w)(hb:Below w.heap.size w w'):LE E w':=⟨h.ne.below hb,h.de.below hb ai,(hb.cell (aF h.ty)).trans h.ty⟩
end
theorem eG.fit {M:Dm}(h:eG M):EA M/\SzD M:=by
 refine⟨fun n e he=>?_,fun n e he a ha=>?_⟩
 ·obtain⟨h1, -,h3⟩:=h n e he;refine⟨fun e1=>(by rw[e1] at h1;exact absurd h1 (by decide)),fun a ha=>?_⟩;have:=lS (h3.1 a ha).2;omega
 ·obtain⟨-, -,h3⟩:=h n e he;exact lS (h3.1 a ha).2
theorem Mx {α β:Type}{f g:α->List β}:∀ks:List α,(∀j∈ks,f j=g j)->ks.flatMap f=ks.flatMap g
 |[],_=>rfl
 |k::ks,h=>by rw[List.flatMap_cons,List.flatMap_cons,h k (by simp),Mx ks (fun j hj=>h j (by simp[hj]))]
theorem MC {α:Type}(q:α->Bool):∀l:List α,(l.filter q).length+(l.filter (fun x=> !q x)).length=l.length
 |[]=>rfl
 |a::l=>by
  have ih:=MC q l;cases hq:q a
  ·rw[List.filter_cons_of_neg (by simp[hq]),List.filter_cons_of_pos (by simp[hq]),List.length_cons,List.length_cons];omega
  ·rw[List.filter_cons_of_pos hq,List.filter_cons_of_neg (by simp[hq]),List.length_cons,List.length_cons];omega
theorem MF:∀(ks:List Nat) (l:List Pc),ks.Nodup->(ks.flatMap (fun(k:Nat)=>l.filter (fun x=>x.lv==(k:Int)))).length<=l.length
 |[],_,_=>aP _
 |k::ks,l,h=>by
  obtain⟨h1,h2⟩:=List.nodup_cons.1 h;have h3:=MF ks (l.filter (fun x=> !(x.lv==(k:Int)))) h2;have h4:ks.flatMap (fun(j:Nat)=>(l.filter (fun x=> !(x.lv==(k:Int)))).filter (fun x=>x.lv==(j:Int)))=ks.flatMap (fun(j:Nat)=>l.filter (fun x=>x.lv==(j:Int))):=by
   refine Mx ks fun j hj=>?_;rw[List.filter_filter];congr 1;funext x;by_cases hx:x.lv=(j:Int)
   ·have:j≠k:=fun e=>h1 (e▸hj);simp[hx];omega
   ·simp[hx]
  rw[h4] at h3;rw[List.flatMap_cons,List.length_append];have h5:=MC (fun x:Pc=>x.lv==(k:Int)) l;omega
theorem Z9 (l:List Pc):(uD l).length<=l.length:=MF _ l List.nodup_range
def UT (M:Dm)(rl:List Rl):Prop:=∃l,dV M rl=.ok l/\∀x∈l,iw (fK x)
structure LvS (W:ag)(LB B:Nat)(tg:bP)(DB MB:Nat)(p:Int->Option Nat)(M:Dm)(nx c:Nat)(r:Int->Nat)(rl:List Rl)(rv:ah)(qs:List dI)(pv:ah)(w h:Nat)(cv:ah):Prop where
 lb:W.heap[LB]? =some (.cells #[ay DB,rv,pv,aa w,aa h,cv] 67)
 base:B<=LB
 ds:jm B tg W DB MB p M nx c r
 ok:eG M
 rok:∀x∈rl,RlG x
 row:W.ownsRow B 109 3 rv rl.length (eY rl)
 pc:wZ W B pv qs
 pm:dV M rl=.ok (qs.map dI.pc)
 pk:∀x∈qs,iw (fK x.pc)
 ql:qs.length<=1000
 pic:W.ownsRow B 9 1 cv (w*h) ((lW aN ((qs.map dI.pc).map fK) w h).map .string)
section
variable {E:Nat->Addr}{W w':ag}{LB B:Nat}{tg:bP}{DB MB:Nat}{p:Int->Option Nat}{M:Dm}{nx c:Nat}{r:Int->Nat}{rl:List Rl}{rv:ah}{qs:List dI}{pv:ah}{w h:Nat}{cv:ah}
theorem LvS.below (hl:LvS W LB B tg DB MB p M nx c r rl rv qs pv w h cv)(hb:Below W.heap.size W w'):LvS w' LB B tg DB MB p M nx c r rl rv qs pv w h cv:=
 ⟨(hb.block _ (aI hl.lb)).trans hl.lb,hl.base,hl.ds.below hb,hl.ok,hl.rok,aQ hl.row hb,hl.pc.below hb,hl.pm,hl.pk,hl.ql,aQ hl.pic hb⟩
theorem Dw {M:Dm}{rl:List Rl}{l:List Pc}(hp:dV M rl=.ok l):l.length<=1000:=by
 unfold dV at hp;cases hc:dM M rl 101 0 [-1] .one (0,[]) with
 |error e=>rw[hc] at hp;cases hp
 |ok st=>
  rw[hc] at hp;have hl:=Except.ok.inj hp;rw[<- hl];have h1:=rT M rl 101 0 [-1] .one (0,[]) st hc ai;have h2:=xk M rl 101 0 [-1] .one (0,[]) st hc (aP _);have h3:=Z9 st.2;omega
end
mutual
theorem Za:∀(n:Nd) (deep ahead k:Nat) (p:Int),(ig n deep ahead).1=0->∀e∈qo k p n,a2r e
 | .mk nm ats ks,deep,ahead,k,p,h,e,he=>by
  unfold ig at h;split at h
  ·rename_i h1;rw[qo] at he;rcases List.mem_cons.1 he with rfl|he
   ·obtain⟨a1,a2, -⟩:=Cf h1;refine⟨a1,a2,Po.ck.1 ?_⟩;unfold ck1 at h1;obtain⟨b1,b2⟩:=wL (nm:=nm) (ats:=ats) (deep:=deep) (ahead:=ahead) (by unfold ck1;exact h1);rw[if_neg (by omega),if_neg (by omega),if_pos a1,if_neg (by omega)] at h1;exact h1
   ·exact Zb ks _ _ _ _ h e he
  ·rename_i h1;exact(h1 h).elim
theorem Zb:∀(l:List Nd) (deep ahead k:Nat) (p:Int),(sH l deep ahead).1=0->∀e∈qU k p l,a2r e
 |[],_,_,_,_,_,e,he=>by simp[qU] at he
 |n::l,deep,ahead,k,p,h,e,he=>by
  by_cases h1:(ig n deep ahead).1=0
  ·rw[nV h1] at h;rw[qU] at he;rcases List.mem_append.1 he with he|he
   ·exact Za n deep ahead _ _ h1 e he
   ·exact Zb l _ _ _ _ h e he
  ·rw[wM h1] at h;exact(h1 h).elim
end
theorem oI {n:Nd}(hc:(ig n 1 0).1=0):eG (l6 n):=fun i e he=>by
 unfold l6 iU at he;split at he
 ·exact Za n 1 0 0 (-1) hc e (fV he)
 ·cases he
theorem MG {E:Nat->Addr}{V:ag}{base:Nat}{v:ah}{qs:List dI}(hE:LE E V)(h:wZ V base v qs)(hl:qs.length<=1000)(w k:Nat)(hw1:1<=w)(hw:w<=40)(hk1:1<=k)(hk:k<=40):
  au 21 #[v,.int .i64 w,.int .i64 k] V fun e W=>(((∀x∈qs,iw (fK x.pc))/\∃g cp,e=.returned (.tuple #[.agg #[.int .i64 w,.int .i64 k,.slice (some ⟨g,0,none⟩) (w*k) cp],.nilIface])/\W.ownsRow V.heap.size 9 1 (.slice (some ⟨g,0,none⟩) (w*k) cp) (w*k) ((lW aN ((qs.map dI.pc).map fK) w k).map .string))\/((¬∀x∈qs,iw (fK x.pc))/\∃a,e=.returned (.tuple #[.agg #[.int .i64 0,.int .i64 0,.slice none 0 0],.iface 90 (.pointer (some a))])))/\Below V.heap.size V W:=by
 obtain⟨o,cap,rfl,h1,h2⟩:=h.row;refine(Wo _ _ _ _ (qs.map dI.p5) o cap w k V hw1 hw hk1 hk (by rw[List.length_map];exact hl) h1 h2 hE.ep).mono fun e W ⟨h3,h4⟩=>⟨?_,h4⟩;have hok:jT (qs.map dI.p5)↔∀x∈qs,iw (fK x.pc):=by
  unfold jT;constructor
  ·intro hh x hx;exact hh _ (List.mem_map_of_mem hx)
  ·intro hh x hx;obtain⟨y,hy,rfl⟩:=List.mem_map.1 hx;exact hh y hy
 rcases h3 with⟨h5,v,h6,h7⟩|⟨h5,a,h6⟩
 ·obtain⟨g,cp,rfl, -, -⟩:=h7.form (Nat.mul_pos hw1 hk1);rw[a4k] at h7;exact .inl ⟨hok.1 h5,g,cp,h6,h7⟩
 ·exact .inr ⟨fun hh=>h5 (hok.2 hh),a,h6⟩
theorem xX.Zc {B B':Nat}{tg:bP}{w:ag}{i:Int}{b:Nat}{e:gH}{va vk:ah}(h:xX B tg w i b e va vk)(hb:B'<=B):xX B' tg w i b e va vk:=⟨h.cells,h.tag,eZ h.ats hb,h.kZ,eZ h.kids hb,h.iO⟩
theorem aX.Zc {B B':Nat}{tg:bP}{w:ag}{DB MB:Nat}{p:Int->Option Nat}{M:Dm}{nx c:Nat}(h:aX B tg w DB MB p M nx c)(hb:B'<=B):aX B' tg w DB MB p M nx c:=
 ⟨h.doc,h.ji,h.map,h.jk,fun i e he=>by obtain⟨b,va,vk,h1,h2⟩:=h.els i e he;exact⟨b,va,vk,h1,h2.Zc hb⟩,h.non,fun b t ht=>⟨aJ hb (h.low b t ht).1,(h.low b t ht).2⟩,h.dom,h.wf,h.few,h.Nh⟩
theorem a6K (V:ag)(base:Nat):wZ V base (.slice none 0 0) []:=⟨eH _ _ _ _,fun x hx=>(by cases hx),fun x hx=>(by cases hx)⟩
end
end Go.Proofs.YtecneflbncjhpaaGreatDoor

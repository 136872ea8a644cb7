/-
  Parts of the proof.
-/
import Derived.Test.YtjfiehbcamfdfaaGreatDoorQy4
import Derived.Test.YtjfiehbcamfdfaaGreatDoorQy28
namespace Go.Proofs.YtjfiehbcamfdfaaGreatDoor
open Go.Proofs.Tryz
section
open Go.RowKit
theorem Ew (f:Nat)(fn:Func)(hf:prog.funcs[f]? =some fn)(h1:(fn.name=="runtime.NumGoroutine")=false)(h2:fn.body.isNone=false)(av:Array Value)(w:World):Sem.run prog (callFunc f av) w=.ok (.enter f av) w:=by
 unfold callFunc;simp only[Sem.run_bind,run_program,Result.andThen_ok,hf,h1,h2];rfl
end
section
open Go.RowKit
set_option maxHeartbeats 4000000
set_option maxRecDepth 20000
abbrev rfV (fn By:Nat):Value:=.func (.func fn) #[] #[aj By]
def a03 (base fn By:Nat)(w:World)(l:List P5)(q:P5->Bool):Prop:=∀x∈l,∀V,Below base w V->ak fn #[TV x,aj By] V fun e W=>e=.returned (.bool (q x))/\Below V.heap.size V W
theorem MZ (aB aS aZ:Addr)(x:P5)(y:Int)(By:Nat)(w:World)(hl:x.s.pts.length<=1000)(h:dM w x.o x.s.pts)(hE:E3 aB aS aZ w)(hy:w.cell? (ag By 0)=some (aa y)):
  ak 86 #[TV x,aj By] w fun e W=>e=.returned (.bool (!aC x.s.pts y))/\Below w.heap.size w W:=by
 have C0:=La.new w x 138;have b0:=aL w (.cells (wF x) 138);have RE:=xM aB aS aZ x y (w.alloc (.cells (wF x) 138)) hl (h.below b0 eU) (hE.below b0 eU);have hy1:=(b0.cell (ay hy)).trans hy;go_enter func86,ntmps86;go_wp2_with(go_at_call 87;refine RE.mono ?_;rintro e w1 ⟨rfl,b1⟩);go_ret;exact⟨rfl,au b0 b1⟩
def abu (q:P5->Bool)(l:List P5)(e:Ending):Prop:=((∀x∈l,q x=false)/\e=.returned (aa (-1)))\/∃k x,l[k]? =some x/\(∀y∈l.take k,q y=false)/\q x=true/\e=.returned (aa (k:Nat))
theorem JE (base fn By:Nat)(hcf:∀(av:Array Value) (w:World),Sem.run prog (callFunc fn av) w=.ok (.enter fn av) w)(q:P5->Bool)(l:List P5)(o:Option Addr)(cap:Nat)(w0 w:World)(hl:l.length<=1000)(h:gG w o l)(hb0:Below base w0 w)(hbase:base<=w.heap.size)(hq:a03 base fn By w0 l q):
  ak 131 #[.slice o l.length cap,rfV fn By] w fun e W=>abu q l e/\Below w.heap.size w W:=by
 go_enter func131,ntmps131;go_wp2
 go_loopw [8] (fun i wr=>∃k:Nat,k<=l.length/\i=aa k/\(∀x∈l.take k,q x=false)/\Below w.heap.size w wr) (fun i _=>l.length-(intOf i).toNat)
 case atStart=>exact⟨0,Nat.zero_le _,rfl,(fun a ha=>by simp at ha),Below.refl _ _⟩
 case round=>
  obtain⟨k,hk,rfl,hrt,hb⟩:=hrel;by_cases hlt:k<l.length
  ·have hlt':(k:Int)<(l.length:Int):=by omega
   obtain⟨x,hx⟩:∃x,l[k]? =some x:=⟨_,List.getElem?_eq_getElem hlt⟩;have hmem:x∈l:=List.mem_of_getElem? hx;obtain⟨b,off,rfl,hC⟩:=h.below hb eU k x hx;have AQ:=hq x hmem wr (hb0.trans (hb.mono hbase));obtain⟨c0,c1,c2,c3,c4⟩:=hC;have HX:Hid (l[k]? =some x):=hx;clear hx;cases Ty:q x with
   |false=>
    rw[Ty] at AQ;go_wp2_with(refine AQ.mono ?_;rintro e w1 ⟨rfl,b1⟩)
    go_roundw
    case rel=>exact⟨k+1,by omega,by go_num,fun y hy=>by rw[List.take_add_one,HX.out] at hy;rcases List.mem_append.1 hy with hy|hy;exact hrt y hy;simp at hy;subst hy;exact Ty,au hb b1⟩
    case measure=>simp[intOf];omega
   |true=>
    rw[Ty] at AQ;go_wp2_with(refine AQ.mono ?_;rintro e w1 ⟨rfl,b1⟩);go_ret;exact⟨.inr ⟨k,x,HX.out,hrt,Ty,rfl⟩,au hb b1⟩
  ·obtain rfl:k=l.length:=by omega
   go_wp2_with fail;go_ret;rw[List.take_length] at hrt;exact⟨.inl ⟨hrt,rfl⟩,hb⟩
theorem D9 (w:World)(ty:TypeId)(b o n c:Nat)(hn:0<n)(hc:∀j,j<n*5->(w.cell? (ag b (o+j))).isSome=true)(hf:∀j,j<n*5->w.frozen? ⟨b,o+j,none⟩=false):
  ∃vs:List Value,vs.length=n*5/\(Builtin.clear_ #[73] ty #[.slice (some ⟨b,o,none⟩) n c]).run prog w=.ok (.tuple #[]) (w.setCells b o vs):=by
 have hv:∀w,(zeroValue 138).run prog w=.ok (.agg #[aa 0,.slice none 0 0,.string ⟨#[]⟩,.string ⟨#[]⟩,aa 0]) w:=fun w=>by kernel_rfl
 have hlen:(Builtin.zeroCells (Value.agg #[aa 0,.slice none 0 0,.string ⟨#[]⟩,.string ⟨#[]⟩,aa 0]).cells n).toList.length=n*5:=by
  simp[Builtin.zeroCells,Value.cells]
 refine⟨(Builtin.zeroCells (Value.agg #[aa 0,.slice none 0 0,.string ⟨#[]⟩,.string ⟨#[]⟩,aa 0]).cells n).toList,hlen,?_⟩;have hone:∀v∈(Builtin.zeroCells (Value.agg #[aa 0,.slice none 0 0,.string ⟨#[]⟩,.string ⟨#[]⟩,aa 0]).cells n).toList,v.oneCell'=true:=by
  intro v hv;simp only[Builtin.zeroCells,Value.cells,Array.toList_map,List.mem_map] at hv;obtain⟨i, -,rfl⟩:=hv;have hi:i % 5<5:=Nat.mod_lt _ (by decide);show(#[Value.int .i64 0,.slice none 0 0,.string ⟨#[]⟩,.string ⟨#[]⟩,aa 0][i % 5]!).oneCell'=true;generalize i % 5=j at hi
  match j,hi with
  |0,_=>rfl
  |1,_=>rfl
  |2,_=>rfl
  |3,_=>rfl
  |4,_=>rfl
 have hst:=run_storeCells_cells (P:=prog) b o (Builtin.zeroCells (Value.agg #[aa 0,.slice none 0 0,.string ⟨#[]⟩,.string ⟨#[]⟩,aa 0]).cells n).toList 0 w (by rw[hlen];simpa using hc) (by rw[hlen];simpa using hf) hone;simp only[Nat.add_zero] at hst;obtain⟨m,rfl⟩:∃m,n=m+1:=⟨n-1,by omega⟩;simp[Builtin.clear_,run_underlying underlying73,hv,hst]
theorem eP {B b:Nat}{a:World}(hb:B<=b):∀(vs:List Value) (o:Nat) (w:World),Below B a w->Below B a (w.setCells b o vs)
 |[],_,_,h=>h
 |_::vs,_,_,h=>eP hb vs _ _ (h.setCell hb _)
abbrev VY (w:World)(b o:Nat)(x:P5):World:=((((w.setCell ⟨b,o,none⟩ (aa x.nd)).setCell ⟨b,o+1,none⟩ (.slice x.o x.s.pts.length x.cap)).setCell ⟨b,o+2,none⟩ (.string x.s.fill)).setCell ⟨b,o+3,none⟩ (.string x.s.rule)).setCell ⟨b,o+4,none⟩ (aa x.lv)
theorem P7 (w:World)(b o:Nat)(x:P5):VY w b o x=w.setCells b o [aa x.nd,.slice x.o x.s.pts.length x.cap,.string x.s.fill,.string x.s.rule,aa x.lv]:=rfl
theorem Dy.set {w:World}{b:Nat}{l:List P5}(h:Dy w b l){i:Nat}(hi:i<l.length)(x:P5):Dy (VY w b (i*5) x) b (l.set i x):=by
 rw[P7];have old:=h.c i l[i] (List.getElem?_eq_getElem hi);have hin:=World.cell?_setCells_in b [aa x.nd,.slice x.o x.s.pts.length x.cap,.string x.s.fill,.string x.s.rule,aa x.lv] (i*5) w (fun j hj=>by
  have hj':j<5:=hj
  match j,hj' with
  |0,_=>rw[Nat.add_zero,old.c0];rfl
  |1,_=>rw[old.c1];rfl
  |2,_=>rw[old.c2];rfl
  |3,_=>rw[old.c3];rfl
  |4,_=>rw[old.c4];rfl)
 refine⟨fun k y hy=>?_,fun j hj=>?_⟩
 ·by_cases e:k=i
  ·subst e;rw[List.getElem?_set_self hi] at hy;cases hy;exact⟨hin 0 (by simp),hin 1 (by simp),hin 2 (by simp),hin 3 (by simp),hin 4 (by simp)⟩
  ·rw[List.getElem?_set_ne (fun h=>e h.symm)] at hy;obtain⟨c0,c1,c2,c3,c4⟩:=h.c k y hy;have far:∀j,j<5->(w.setCells b (i*5) [aa x.nd,.slice x.o x.s.pts.length x.cap,.string x.s.fill,.string x.s.rule,aa x.lv]).cell? (ag b (k*5+j))=w.cell? (ag b (k*5+j)):=fun j hj=>World.cell?_setCells_out b _ _ w ⟨b,k*5+j,none⟩ (fun _ _=>by
    show k*5+j<i*5\/i*5+5<=k*5+j;omega)
   exact⟨(far 0 (by decide)).trans c0,(far 1 (by decide)).trans c1,(far 2 (by decide)).trans c2,(far 3 (by decide)).trans c3,(far 4 (by decide)).trans c4⟩
 ·rw[World.frozen?_setCells];exact h.f j (by rw[List.length_set] at hj;exact hj)
theorem Dy.setCells {w:World}{b:Nat}{l:List P5}(h:Dy w b l)(i:Nat)(vs:List Value):Dy (w.setCells b (i*5) vs) b (l.take i):=⟨fun k y hy=>by
  rw[List.getElem?_take] at hy;split at hy
  ·rename_i hki;obtain⟨c0,c1,c2,c3,c4⟩:=h.c k y hy;have far:∀j,j<5->(w.setCells b (i*5) vs).cell? (ag b (k*5+j))=w.cell? (ag b (k*5+j)):=fun j hj=>World.cell?_setCells_out b _ _ w ⟨b,k*5+j,none⟩ (fun _ _=>.inl (by
    show k*5+j<i*5;omega))
   exact⟨(far 0 (by decide)).trans c0,(far 1 (by decide)).trans c1,(far 2 (by decide)).trans c2,(far 3 (by decide)).trans c3,(far 4 (by decide)).trans c4⟩
  ·exact absurd hy (by simp),fun j hj=>by
  rw[World.frozen?_setCells];exact h.f j (by rw[List.length_take] at hj;omega)⟩
structure Da (q:P5->Bool)(l:List P5)(b base:Nat)(w0:World)(i j:Nat)(l':List P5)(w:World):Prop where
 len:l'.length=l.length
 lt:i<j
 le:j<=l.length
 kept:l'.take i=(l.take j).filter fun x=> !q x
 rest:l'.drop j=l.drop j
 row:Dy w b l'
 bel:Below base w0 w
 sz:b<w.heap.size
theorem filter_none {q:P5->Bool}{l:List P5}(h:∀x∈l,q x=false):(l.filter fun x=> !q x)=l:=List.filter_eq_self.2 (fun x hx=>by rw[h x hx];rfl)
theorem Da.skip {q:P5->Bool}{l:List P5}{b base:Nat}{w0:World}{i j:Nat}{l':List P5}{w w':World}{x:P5}(h:Da q l b base w0 i j l' w)(hx:l[j]? =some x)(hq:q x=true)(hb:Below w.heap.size w w')(hbase:base<=w.heap.size):Da q l b base w0 i (j+1) l' w':=by
 have hj:j<l.length:=(List.getElem?_eq_some_iff.1 hx).1;refine⟨h.len,by have:=h.lt;omega,hj,?_,?_,h.row.below hb h.sz,h.bel.trans (hb.mono hbase),Nat.lt_of_lt_of_le h.sz hb.size⟩
 ·rw[h.kept,List.take_add_one,hx,List.filter_append];simp[hq]
 ·rw[<- List.drop_drop,h.rest,List.drop_drop]
theorem Da.keep {q:P5->Bool}{l:List P5}{b base:Nat}{w0:World}{i j:Nat}{l':List P5}{w w':World}{x:P5}(h:Da q l b base w0 i j l' w)(hx:l[j]? =some x)(hq:q x=false)(hb:Below w.heap.size w w')(hbase:base<=w.heap.size)(hbb:base<=b):Da q l b base w0 (i+1) (j+1) (l'.set i x) (VY w' b (i*5) x):=by
 have hj:j<l.length:=(List.getElem?_eq_some_iff.1 hx).1;have hi:i<l'.length:=by have:=h.lt;have:=h.le;rw[h.len];omega
 have hbl:=h.bel.trans (hb.mono hbase);refine⟨by rw[List.length_set,h.len],by have:=h.lt;omega,hj,?_,?_,(h.row.below hb h.sz).set hi x,?_,?_⟩
 ·rw[List.take_add_one,List.take_set_of_le eU,h.kept,List.getElem?_set_self hi,List.take_add_one,hx,List.filter_append];simp[hq]
 ·rw[List.drop_set_of_lt (by have:=h.lt;omega),<- List.drop_drop,h.rest,List.drop_drop]
 ·rw[P7];exact eP hbb _ _ _ hbl
 ·have:(VY w' b (i*5) x).heap.size=w'.heap.size:=by simp[VY]
  rw[this];exact Nat.lt_of_lt_of_le h.sz hb.size
theorem Da.start {q:P5->Bool}{l:List P5}{b base:Nat}{w0 w:World}{k:Nat}{x:P5}(hr:Dy w b l)(hb:Below base w0 w)(hs:b<w.heap.size)(hx:l[k]? =some x)(hall:∀y∈l.take k,q y=false)(hq:q x=true):Da q l b base w0 k (k+1) l w:=by
 have hk:k<l.length:=(List.getElem?_eq_some_iff.1 hx).1;refine⟨rfl,by omega,hk,?_,rfl,hr,hb,hs⟩;rw[List.take_add_one,hx,List.filter_append,filter_none hall];simp[hq]
theorem Ex (base fn By:Nat)(hcf:∀(av:Array Value) (w:World),Sem.run prog (callFunc fn av) w=.ok (.enter fn av) w)(q:P5->Bool)(l:List P5)(b cap:Nat)(w0 w:World)(hl:l.length<=1000)(hr:Dy w b l)(hbb:base<=b)(hbw:b<w.heap.size)(hcap:l.length<=cap)(hb0:Below base w0 w)(hq:a03 base fn By w0 l q):
  ak 84 #[.slice (some ⟨b,0,none⟩) l.length cap,rfV fn By] w fun e W=>e=.returned (.slice (some ⟨b,0,none⟩) (l.filter fun x=> !q x).length cap)/\Dy W b (l.filter fun x=> !q x)/\Below base w0 W/\b<W.heap.size:=by
 have hbase:base<=w.heap.size:=by omega
 have IX:=JE base fn By hcf q l (some ⟨b,0,none⟩) cap w0 w hl hr.at_ hb0 hbase hq;go_enter func84,ntmps84;go_upto_region 2 with(go_at_call 131;refine IX.mono ?_;rintro e w1 ⟨hix,b1⟩;obtain⟨n,rfl,hn⟩:∃n:Int,e=.returned (aa n)/\((∀x∈l,q x=false)/\n= -1\/∃(k:Nat) (x:P5),l[k]? =some x/\(∀y∈l.take k,q y=false)/\q x=true/\n=k):=(by rcases hix with⟨k1,k2⟩|⟨k,x,k1,k2,k3,k4⟩;exact⟨_,k2,.inl ⟨k1,rfl⟩⟩;exact⟨_,k4,.inr ⟨k,x,k1,k2,k3,rfl⟩⟩));clear hix IX;have hr1:=hr.below b1 hbw;have hb1:=hb0.trans (b1.mono hbase);have a3B:=Nat.lt_of_lt_of_le hbw b1.size;rcases hn with⟨hall,rfl⟩|⟨k,x,hx,hall,Ty,rfl⟩
 ·go_wp2_with fail;go_ret;rw[filter_none hall];exact⟨rfl,hr1,hb1,a3B⟩
 ·have D0:=Da.start hr1 hb1 a3B hx hall Ty;have hk:k<l.length:=(List.getElem?_eq_some_iff.1 hx).1;have hne:((k:Int)== -1)=false:=beq_eq_false_iff_ne.2 (by omega);clear hx hall Ty hr1 hb1 a3B hr;go_wp2_with fail
  go_loopw [5,6] (fun u v wr=>∃(i j:Nat) (l':List P5),u=aa i/\v=aa j/\Da q l b base w0 i j l' wr) (fun _ v _=>l.length-(intOf v).toNat)
  case atStart=>exact⟨k,k+1,l,rfl,by go_num,D0⟩
  case round=>
   obtain⟨i,j,l',rfl,rfl,hD⟩:=hrel;have hij:=hD.lt;have hjl:=hD.le;have hwb:base<=wr.heap.size:=by have:=hD.sz;omega
   by_cases hlt:j<l.length
   ·have hlt':(j:Int)<(l.length:Int):=by omega
    have a3c:(i:Int)<(l.length:Int):=by omega
    obtain⟨x,hx⟩:∃x,l[j]? =some x:=⟨_,List.getElem?_eq_getElem hlt⟩;have hmem:x∈l:=List.mem_of_getElem? hx;have hx':l'[j]? =some x:=by
     have h1:(l'.drop j)[0]? =some x:=by rw[hD.rest,List.getElem?_drop];exact hx
     rw[List.getElem?_drop] at h1;exact h1
    have hC:=hD.row.c j x hx';have b2:=aL wr (.cells (wF x) 138);have AQ:=hq x hmem (wr.alloc (.cells (wF x) 138)) (hD.bel.trans (b2.mono hwb));have C0:=La.new wr x 138;obtain⟨c0,c1,c2,c3,c4⟩:=hC;have HX:Hid (l[j]? =some x):=hx;clear hx hx';cases Ty:q x with
    |true=>
     rw[Ty] at AQ;go_wp2_with(refine AQ.mono ?_;rintro e w2 ⟨rfl,b3⟩)
     go_roundw
     case rel=>exact⟨i,j+1,l',rfl,by go_num,hD.skip HX.out Ty (au b2 b3) hwb⟩
     case measure=>simp[intOf];omega
    |false=>
     rw[Ty] at AQ;have hil:i<l'.length:=by rw[hD.len];omega
     have oi:=hD.row.c i l'[i] (List.getElem?_eq_getElem hil);generalize l'[i]=old at oi;have fi:∀m,m<5->wr.frozen? ⟨b,i*5+m,none⟩=false:=fun m hm=>hD.row.f _ (by rw[hD.len];omega);go_upto_region 9 with(refine AQ.mono ?_;rintro e w2 ⟨rfl,b3⟩);have sj:=au b2 b3;obtain⟨d0,d1,d2,d3,d4⟩:=C0.below b3 eU;obtain⟨o0,o1,o2,o3,o4⟩:=oi.below sj eU;have f0:=(sj.frozen (p:=⟨b,i*5,none⟩) hD.sz).trans (fi 0 (by decide));have f1:=(sj.frozen (p:=⟨b,i*5+1,none⟩) hD.sz).trans (fi 1 (by decide));have f2:=(sj.frozen (p:=⟨b,i*5+2,none⟩) hD.sz).trans (fi 2 (by decide));have f3:=(sj.frozen (p:=⟨b,i*5+3,none⟩) hD.sz).trans (fi 3 (by decide));have f4:=(sj.frozen (p:=⟨b,i*5+4,none⟩) hD.sz).trans (fi 4 (by decide));have K:=hD.keep HX.out Ty sj hwb hbb;clear hil c0 c1 c2 c3 c4 fi;go_wp2_with fail
     go_roundw
     case rel=>exact⟨i+1,j+1,_,by go_num,by go_num,K⟩
     case measure=>simp[intOf];omega
   ·obtain rfl:j=l.length:=by omega
    have hni:0<l.length-i:=by omega
    have hlen:=hD.len;obtain⟨vs,hvl,hcl⟩:∃vs:List Value,vs.length=(l.length-i)*5/\∀ty,(Builtin.clear_ #[73] ty #[.slice (some ⟨b,i*5,none⟩) (l.length-i) (cap-i)]).run prog wr=.ok (.tuple #[]) (wr.setCells b (i*5) vs):=by
     have hex:∀ty,∃vs:List Value,vs.length=(l.length-i)*5/\(Builtin.clear_ #[73] ty #[.slice (some ⟨b,i*5,none⟩) (l.length-i) (cap-i)]).run prog wr=.ok (.tuple #[]) (wr.setCells b (i*5) vs):=fun ty=>D9 wr ty b (i*5) (l.length-i) (cap-i) hni (fun m hm=>by
      obtain⟨r,hr⟩:∃r,i*5+m=r:=⟨_,rfl⟩;rw[hr];have hrl:r/5<l'.length:=by omega
      obtain⟨c0,c1,c2,c3,c4⟩:=hD.row.c (r/5) l'[r/5] (List.getElem?_eq_getElem hrl);have hm5:r % 5<5:=Nat.mod_lt _ (by decide);have er:r=r/5*5+r % 5:=by omega
      rw[er];generalize r % 5=z at hm5
      match z,hm5 with
      |0,_=>rw[Nat.add_zero,c0];rfl
      |1,_=>rw[c1];rfl
      |2,_=>rw[c2];rfl
      |3,_=>rw[c3];rfl
      |4,_=>rw[c4];rfl) (fun m hm=>hD.row.f _ (by omega))
     obtain⟨vs,h1,h2⟩:=hex 0;exact⟨vs,h1,fun ty=>h2⟩
    have hic:(i:Int)<(cap:Int):=by omega
    have hil:(i:Int)<(l.length:Int):=by omega
    have ahT:¬cap-i=0:=by omega
    have K:Dy (wr.setCells b (i*5) vs) b (l.filter fun x=> !q x):=by
     have h1:=hD.row.setCells i vs;rw[hD.kept,List.take_length] at h1;exact h1
    have hfl:(l.filter fun x=> !q x).length=i:=by
     have h1:=hD.kept;rw[List.take_length] at h1;rw[<- h1,List.length_take];omega
    have HF:Hid ((l.filter fun x=> !q x).length=i):=hfl;have hB2:=eP hbb vs (i*5) wr hD.bel;have hS2:b<(wr.setCells b (i*5) vs).heap.size:=by
     have:=(eP eU vs (i*5) wr (Below.refl b wr)).size;have:=hD.sz;omega
    clear hfl hvl hlen;go_wp2_with fail;go_ret;exact⟨by rw[HF.out];rfl,K,hB2,hS2⟩
end
section
open Go.RowKit
set_option maxHeartbeats 4000000
set_option maxRecDepth 20000
theorem a04 (aB aS aZ:Addr)(y:Int)(l:List P5)(w:World)(By:Nat)(hl:∀x∈l,x.s.pts.length<=1000)(hP:iC w l)(hE:E3 aB aS aZ w)(hy:w.cell? (ag By 0)=some (aa y)):a03 w.heap.size 86 By w l (fun x=> !aC x.s.pts y):=fun x hx V hV=>
 MZ aB aS aZ x y By V (hl x hx) ((hP x hx).below hV eU) (hE.below hV eU) ((hV.cell (ay hy)).trans hy)
theorem Rc (l:List P5)(y:Int):sP (l.filter fun x=> !!aC x.s.pts y)=(sP l).filter fun s=>aC s.pts y:=by
 induction l with
 |nil=>rfl
 |cons a l ih=>
  simp only[sP,List.filter_cons,List.map_cons,Bool.not_not] at ih⊢;cases h:aC a.s.pts y with
  |true=>simp[ih]
  |false=>simp[ih]
theorem Ey (fn By:Nat)(hcf:∀(av:Array Value) (w:World),Sem.run prog (callFunc fn av) w=.ok (.enter fn av) w)(w:World):ak 84 #[.slice none 0 0,rfV fn By] w fun e W=>e=.returned (.slice none 0 0)/\Below w.heap.size w W:=by
 have IX:=JE w.heap.size fn By hcf (fun _=>false) [] none 0 w w (by simp) (fun i x hx=>by simp at hx) (Below.refl _ _) eU (fun x hx=>by cases hx);go_enter func84,ntmps84;go_upto_region 2 with(go_at_call 131;refine IX.mono ?_;rintro e w1 ⟨hix,b1⟩;obtain rfl:e=.returned (aa (-1)):=(by rcases hix with⟨-,k2⟩|⟨k,x,k1, -⟩;exact k2;simp at k1));go_wp2_with fail;go_ret;exact⟨rfl,b1⟩
def qR (f:Nat->ByteArray)(n k:Nat):Array Value:=((List.range n).map fun x=>if x<k then Value.string (f x) else .string ⟨#[]⟩).toArray
theorem qU (f:Nat->ByteArray)(n k i:Nat)(h:i<n):(qR f n k)[i]? =some (if i<k then Value.string (f i) else .string ⟨#[]⟩):=by
 unfold qR;rw[List.getElem?_toArray,List.getElem?_map,List.getElem?_range h];rfl
theorem jF (f:Nat->ByteArray)(n k:Nat):(qR f n k).size=n:=by simp[qR]
theorem VZ (f:Nat->ByteArray)(n k:Nat)(h:k<n):(qR f n k).setIfInBounds k (.string (f k))=qR f n (k+1):=by
 apply Array.ext_getElem?;intro i;by_cases hi:i<n
 ·rw[qU f n (k+1) i hi];by_cases e:k=i
  ·subst e;rw[Array.getElem?_setIfInBounds_self_of_lt (by rw[jF];exact h),if_pos (by omega)]
  ·rw[Array.getElem?_setIfInBounds_ne e,qU f n k i hi];by_cases h1:i<k
   ·rw[if_pos h1,if_pos (by omega)]
   ·rw[if_neg h1,if_neg (by omega)]
 ·rw[Array.getElem?_eq_none (by rw[Array.size_setIfInBounds,jF];omega),Array.getElem?_eq_none (by rw[jF];omega)]
theorem a7D (f:Nat->ByteArray)(n:Nat):madeCells (Value.string ⟨#[]⟩).cells n=qR f n 0:=by
 apply Array.ext_getElem?;intro i;by_cases hi:i<n
 ·rw[qU f n 0 i hi,if_neg (by omega)];simp[madeCells,Value.cells,hi,Nat.mod_one]
 ·rw[Array.getElem?_eq_none (by simp[madeCells];omega),Array.getElem?_eq_none (by rw[jF];omega)]
theorem Ga:(prog.info? 9).map (fun i=>(i.zero,i.size,i.bytes))=some (some (.string ⟨#[]⟩),1,16):=by kernel_rfl
theorem Re (f:Nat->ByteArray)(n:Nat)(w:World)(hn:n<=100):(Instr.makeSlice 38 (aa (n:Int)) (aa (n:Int))).run prog w=.ok (.slice (some ⟨w.heap.size,0,none⟩) n n) (w.alloc (.cells (qR f n 0) 9)):=by
 obtain⟨i0,hi,hz0,hz1,hz2⟩:=info_parts Ga;have:=run_makeSlice (P:=prog) (w:=w) 38 9 i0 (.string ⟨#[]⟩) underlying38 hi hz0 .i64 .i64 n n (by omega) (Int.le_refl _) (by rw[hz1];omega) (by rw[hz2];omega) (by omega);rw[this,hz1,Int.toNat_natCast,Nat.mul_one,a7D f n]
theorem Rf (f:Nat->ByteArray)(n:Nat):(qR f n n).toList=((List.range n).map f).map .string:=by
 unfold qR;rw[List.map_map];apply List.map_congr_left;intro x hx;rw[if_pos (List.mem_range.1 hx)];rfl
theorem Ez (aB aS aZ aV:Addr)(l:List P5)(o:Option Addr)(cap n:Nat)(y:Int)(w:World)(hn:n<=100)(hy1:0<=y)(hy2:y<=100)(hl:l.length<=1000)(h:yF w o cap l)(hP:iC w l)(hk:∀x∈l,iJ x.s)(hE:EP aB aS aZ aV w):
  ak 48 #[.slice o l.length cap,aa n,aa y] w fun e W=>∃v,e=.returned v/\W.ownsRow w.heap.size 9 1 v n ((mq aC (sP l) n y).map .string)/\Below w.heap.size w W:=by
 have hrow:mq aC (sP l) n y=(List.range n).map fun(x:Nat)=>fZ (sP (l.filter fun x=> !!aC x.s.pts y)) (jw (x:Int) y):=by
  rw[Rc];rfl
 rw[hrow];clear hrow;obtain⟨lr,hlr⟩:∃lr,(l.filter fun x=> !!aC x.s.pts y)=lr:=⟨_,rfl⟩;rw[hlr];have JC:Hid ((l.filter fun x=> !!aC x.s.pts y)=lr):=hlr;clear hlr;have b0:=aL w (.cells #[aa y] 3);have hcy:=(gY w (aa y) 3).1;go_enter func48,ntmps48;go_upto_region 1 with fail;obtain⟨U,hU⟩:∃U,w.alloc (.cells #[aa y] 3)=U:=⟨_,rfl⟩;rw[hU] at b0 hcy⊢;clear hU;have YQ:=hP.below b0 eU;have Hg:=hE.below b0 eU;have CL:=Hz U o cap l (h.below b0) hl
 go_cut [7] from 10 to 14 (fun v wx=>∃oo cc,v=.slice oo lr.length cc/\gG wx oo lr/\Below U.heap.size U wx)
 case first=>
  go_wp2_with(go_at_call 85;refine CL.mono ?_;rintro e w1 ⟨v1,rfl,Rh,b1⟩);have hP1:=YQ.below b1 eU;have hE1:=Hg.below b1 eU;have ahU:=(b1.cell (ay hcy)).trans hcy;have hpl:∀x∈l,x.s.pts.length<=1000:=fun x hx=>by have:=(hk x hx).1.1;omega
  have AR:=a04 aB aS aZ y l U w.heap.size hpl YQ Hg.e3 hcy;rcases Rh.rw with⟨rfl,rfl⟩|⟨b,cc,rfl,hb1,hb2,hb3,hrw⟩
  ·have DN:=Ey 86 w.heap.size (Ew _ _ func86 (by kernel_rfl) (by kernel_rfl)) w1;go_wp2_with(go_at_call 84;refine DN.mono ?_;rintro e w2 ⟨rfl,b2⟩)
   go_meet
   exact⟨none,0,by rw[<- JC.out];rfl,fun i x hx=>by rw[<- JC.out] at hx;simp at hx,au b1 b2⟩
  ·have DF:=Ex U.heap.size 86 w.heap.size (Ew _ _ func86 (by kernel_rfl) (by kernel_rfl)) (fun x=> !aC x.s.pts y) l b cc U w1 hl hrw hb1 hb2 hb3 b1 AR;go_wp2_with(go_at_call 84;refine DF.mono ?_;rintro e w2 ⟨rfl,hrw2,b2, -⟩)
   go_meet
   exact⟨some ⟨b,0,none⟩,cc,by rw[<- JC.out];simp,by rw[<- JC.out];exact hrw2.at_,b2⟩
 case rest=>
  obtain⟨oo,cc,rfl,hAt,bX⟩:=hcut;have hPX:iC wc lr:=fun x hx=>(YQ.below bX eU) x (by rw[<- JC.out] at hx;exact(List.mem_filter.1 hx).1);have hkX:∀x∈lr,iJ x.s:=fun x hx=>hk x (by rw[<- JC.out] at hx;exact(List.mem_filter.1 hx).1);have hlX:lr.length<=1000:=by rw[<- JC.out];exact Nat.le_trans (List.length_filter_le _ _) hl
  have hEX:=Hg.below bX eU;have W9:=(bX.cell (ay hcy)).trans hcy;clear JC CL;have We:=au b0 bX;have MK:=Re (fun x=>fZ (sP lr) (jw (x:Int) y)) n wc hn;go_upto_region 3 with fail;have bM:=aL wc (.cells (qR (fun x=>fZ (sP lr) (jw (x:Int) y)) n 0) 9);have rM:=World.alloc_heap_new wc (.cells (qR (fun x=>fZ (sP lr) (jw (x:Int) y)) n 0) 9);obtain⟨V,hV⟩:∃V,wc.alloc (.cells (qR (fun x=>fZ (sP lr) (jw (x:Int) y)) n 0) 9)=V:=⟨_,rfl⟩;obtain⟨R,hR⟩:∃R,wc.heap.size=R:=⟨_,rfl⟩;have hRw:w.heap.size<=R:=by rw[<- hR];exact We.size
  have abv:=(bM.cell (ay W9)).trans W9;rw[hV] at bM rM abv⊢;rw[hR] at rM⊢;have ahY:w.heap.size<R:=by rw[<- hR];exact ay W9
  have HR:Hid (wc.heap.size=R):=hR;clear hV MK hR;go_wp2_with fail
  go_loopw [18] (fun i wr=>∃k:Nat,k<=n/\i=aa k/\wr.heap[R]? =some (.cells (qR (fun x=>fZ (sP lr) (jw (x:Int) y)) n k) 9)/\Below R wc wr) (fun i _=>n-(intOf i).toNat)
  case atStart=>exact⟨0,Nat.zero_le _,rfl,rM,by rw[<- HR.out];exact bM⟩
  case round=>
   obtain⟨k,hk',rfl,hrow,hb⟩:=hrel;by_cases hlt:k<n
   ·have hlt':(k:Int)<(n:Int):=by omega
    have hbW:Below wc.heap.size wc wr:=by rw[HR.out];exact hb
    have hRs:R<wr.heap.size:=(Array.getElem?_eq_some_iff.1 hrow).1;obtain⟨ec,ip⟩:=U6 (x:=(k:Int)) (y:=y) (by omega) (by omega) hy1 hy2;have CE:=zK (k:Int) y wr (by omega) (by omega) (by omega) (by omega);have bC:=Dv (k:Int) y wr;have ahZ:=(hbW.cell (ay W9)).trans W9;obtain⟨Z,hZ⟩:∃Z,((wr.alloc (a2f (k:Int) y)).alloc (zJ (k:Int))).alloc (zJ y)=Z:=⟨_,rfl⟩;rw[hZ] at CE bC;have YG:=au hbW bC;have SA:=Hw aB aS aZ aV lr oo cc (jw (k:Int) y) Z hlX (hAt.below YG eU) (hPX.below YG eU) hkX ip ec (hEX.below YG eU);clear hZ;have HC:Hid (qR (fun x=>fZ (sP lr) (jw (x:Int) y)) n (k+1)=(qR (fun x=>fZ (sP lr) (jw (x:Int) y)) n k).setIfInBounds k (.string (fZ (sP lr) (jw (k:Int) y)))):=(VZ (fun x=>fZ (sP lr) (jw (x:Int) y)) n k hlt).symm;have c0:wr.cell? (ag R k)=some (.string ⟨#[]⟩):=by
     simp only[World.cell?,hrow];rw[qU _ n k k hlt,if_neg (Nat.lt_irrefl k)];rfl
    have f0:wr.frozen? ⟨R,k,none⟩=false:=by
     unfold World.frozen?;rw[hrow];simp
    generalize fZ (sP lr) (jw (k:Int) y)=sh at SA HC;go_wp2_with(first|(go_at_call 88;refine SA.mono ?_;rintro e w2 ⟨rfl,b2⟩;have bz:=au bC b2;have c2:=(bz.cell (ay c0)).trans c0;have f2:=(bz.frozen (ay c0)).trans f0)|(go_at_call 89;refine CE.mono ?_;rintro e w1 ⟨rfl,rfl⟩))
    go_roundw
    case rel=>
     refine⟨k+1,by omega,by go_num,?_,?_⟩
     ·rw[HC.out];have:=heap_setCell_same w2 R k _ _ (.string sh) (((bz.block R hRs)).trans hrow);exact this
     ·exact(hb.trans (bz.mono (by omega))).setCell eU _
    case measure=>simp[intOf];omega
   ·obtain rfl:k=n:=by omega
    go_wp2_with fail;go_ret;refine⟨_,rfl,⟨by simp,.inr ⟨R,_,_,rfl,hRw,hrow,Nat.le_refl _,by simp only[maxLen];omega,by rw[jF,Nat.mul_one],?_⟩⟩,We.trans (hb.mono hRw)⟩;rw[Nat.mul_one,List.take_of_length_le (by rw[Array.length_toList,jF];exact Nat.le_refl _)];exact Rf _ _
end
section
open Go.RowKit
set_option maxHeartbeats 16000000
set_option maxRecDepth 20000
def jq (l:List P5):Prop:=∀x∈l,iJ x.s
theorem xk {l:List P5}(h:∃x∈l,¬iJ x.s):¬jq l:=fun hk=>by
 obtain⟨x,hx,hn⟩:=h;exact hn (hk x hx)
theorem a3C (aB aS aZ aV:Addr)(l:List P5)(o:Option Addr)(cap n:Nat)(y:Int)(w:World)(hn1:1<=n)(hn:n<=40)(hy1:0<=y)(hy2:y<40)(hl:l.length<=1000)(h:yF w o cap l)(hP:iC w l)(hE:EP aB aS aZ aV w):
  ak 65 #[.slice o l.length cap,aa n,aa y] w fun e W=>((jq l/\∃v,e=.returned (.tuple #[v,.nilIface])/\W.ownsRow w.heap.size 9 1 v n ((mq aC (sP l) n y).map .string))\/(¬jq l/\∃a,e=.returned (.tuple #[.slice none 0 0,.iface 113 (.pointer (some a))])))/\Below w.heap.size w W:=by
 have IS:=tY (n:Int) w;rw[show decide (1<=(n:Int)/\(n:Int)<=40)=true from by simp;omega] at IS;have CK:=wI aB aS aZ aV l o cap w hl h.at_ hP hE;have RO:=fun V (hv:Below w.heap.size w V) (hk:jq l)=>Ez aB aS aZ aV l o cap n y V (by omega) hy1 (by omega) hl (h.below hv) (hP.below hv eU) hk (hE.below hv eU);go_enter func65,ntmps65;go_upto_region 4 with(first|(go_at_call 46;refine IS.mono ?_;rintro e w1 ⟨rfl,rfl⟩)|(go_at_call 47;refine CK.mono ?_;rintro e w1 ⟨hc,b1⟩;obtain⟨v,rfl,hv⟩:∃v,e=.returned v/\((jq l/\v=.nilIface)\/(¬jq l/\∃a,v=.iface 113 (.pointer (some a)))):=(by rcases hc with⟨k1,k2⟩|⟨k1,a,k2⟩;exact⟨_,k2,.inl ⟨k1,rfl⟩⟩;exact⟨_,k2,.inr ⟨xk k1,a,rfl⟩⟩)));rcases hv with⟨hok,rfl⟩|⟨hno,a,rfl⟩
 ·have RO:=RO w1 b1 hok;go_wp2_with(go_at_call 48;refine RO.mono ?_;rintro e w2 ⟨v,rfl,ow,b2⟩);refine bodyPost_ret (results_tmp2 rfl _ _ _) rfl ?_;exact⟨.inl ⟨hok,v,rfl,by
   refine⟨ow.1,?_⟩;rcases ow.2 with h0|⟨g,c,cur,h1,h2,h3⟩
   ·exact .inl h0
   ·exact .inr ⟨g,c,cur,h1,Nat.le_trans b1.size h2,h3⟩⟩,au b1 b2⟩
 ·go_wp2_with fail;refine bodyPost_ret (results_tmp2 rfl _ _ _) rfl ?_;exact⟨.inr ⟨hno,a,rfl⟩,b1⟩
theorem Gb {w:World}{b:Nat}{x y z:Value}{t:TypeId}(h:w.heap[b]? =some (.cells #[x,y,z] t))(u0 u1 u2:Value):(((w.setCell ⟨b,0,none⟩ u0).setCell ⟨b,1,none⟩ u1).setCell ⟨b,2,none⟩ u2).heap[b]? =some (.cells #[u0,u1,u2] t):=by
 have h1:=heap_setCell_same w b 0 _ _ u0 h;have h2:=heap_setCell_same _ b 1 _ _ u1 h1;have h3:=heap_setCell_same _ b 2 _ _ u2 h2;rw[h3];rfl
structure jY (w:World)(b:Nat)(x y z:Value):Prop where
 c0:w.cell? (ag b 0)=some x
 c1:w.cell? (ag b 1)=some y
 c2:w.cell? (ag b 2)=some z
 f0:w.frozen? ⟨b,0,none⟩=false
 f1:w.frozen? ⟨b,1,none⟩=false
 f2:w.frozen? ⟨b,2,none⟩=false
theorem jY.of {w:World}{b:Nat}{x y z:Value}{t:TypeId}(h:w.heap[b]? =some (.cells #[x,y,z] t)):jY w b x y z:=by
 have fz:∀j,w.frozen? ⟨b,j,none⟩=false:=fun j=>by unfold World.frozen?;rw[h];simp
 exact⟨by simp[World.cell?,h],by simp[World.cell?,h],by simp[World.cell?,h],fz 0,fz 1,fz 2⟩
theorem eu {w:World}{base base':Nat}{e:TypeId}{size:Nat}{v:Value}{n:Nat}{xs:List Value}(h:w.ownsRow base e size v n xs)(hb:base'<=base):w.ownsRow base' e size v n xs:=by
 refine⟨h.1,?_⟩;rcases h.2 with h0|⟨g,cap,cur,h1,h2,h3⟩
 ·exact .inl h0
 ·exact .inr ⟨g,cap,cur,h1,Nat.le_trans hb h2,h3⟩
theorem own_below {w w':World}{base:Nat}{e:TypeId}{size:Nat}{v:Value}{n:Nat}{xs:List Value}(h:w.ownsRow base e size v n xs)(hb:Below w.heap.size w w'):w'.ownsRow base e size v n xs:=by
 refine⟨h.1,?_⟩;rcases h.2 with h0|⟨g,cap,cur,h1,h2,h3,h4⟩
 ·exact .inl h0
 ·exact .inr ⟨g,cap,cur,h1,h2,(hb.block g (Array.getElem?_eq_some_iff.1 h3).1).trans h3,h4⟩
theorem fJ {w:World}{base:Nat}{e:TypeId}{size:Nat}{v:Value}{n:Nat}{xs:List Value}(h:w.ownsRow base e size v n xs){p:Addr}(hp:p.block<base)(u:Value):(w.setCell p u).ownsRow base e size v n xs:=by
 refine⟨h.1,?_⟩;rcases h.2 with h0|⟨g,cap,cur,h1,h2,h3,h4⟩
 ·exact .inl h0
 ·exact .inr ⟨g,cap,cur,h1,h2,(Below.heap_setCell w p u g (by omega)).trans h3,h4⟩
theorem Bv {w:World}{base g:Nat}{e:TypeId}{n n' cap:Nat}{xs:List Value}(h:w.ownsRow base e 1 (.slice (some ⟨g,0,none⟩) n' cap) n xs):∀j u,xs[j]? =some u->w.cell? ((⟨g,0,none⟩:Addr).add j)=some u:=fun j u hj=>World.ownsRow.cells h (g:=g) rfl j u hj
theorem Gc (l:List ByteArray):∀u∈l.map Value.string,u.oneCell'=true:=fun u hu=>by
 obtain⟨s, -,rfl⟩:=List.mem_map.1 hu;rfl
theorem Wh (aB aS aZ aV:Addr)(l:List P5)(o:Option Addr)(cap n h:Nat)(w:World)(hn1:1<=n)(hn:n<=40)(AZ:1<=h)(hh:h<=40)(hl:l.length<=1000)(hR:yF w o cap l)(hP:iC w l)(hE:EP aB aS aZ aV w):
  ak 25 #[.slice o l.length cap,aa n,aa h] w fun e W=>((jq l/\∃v,e=.returned (.tuple #[.agg #[aa n,aa h,v],.nilIface])/\W.ownsRow w.heap.size 9 1 v (n*h) ((iZ aC (sP l) n h).map .string))\/(¬jq l/\∃a,e=.returned (.tuple #[.agg #[aa 0,aa 0,.slice none 0 0],.iface 113 (.pointer (some a))])))/\Below w.heap.size w W:=by
 have b0:=aL w (.cells #[aa 0,aa 0,.slice none 0 0] 40);have r0:=World.alloc_heap_new w (.cells #[aa 0,aa 0,.slice none 0 0] 40);have IS:=fun V=>tY (n:Int) V;rw[show decide (1<=(n:Int)/\(n:Int)<=40)=true from by simp;omega] at IS;have IH:=fun V=>tY (h:Int) V;rw[show decide (1<=(h:Int)/\(h:Int)<=40)=true from by simp;omega] at IH;go_enter func25,ntmps25;go_upto_region 1 with fail;obtain⟨U,hU⟩:∃U,w.alloc (.cells #[aa 0,aa 0,.slice none 0 0] 40)=U:=⟨_,rfl⟩;rw[hU] at b0 r0⊢;clear hU;have CK:=wI aB aS aZ aV l o cap U hl (hR.below b0).at_ (hP.below b0 eU) (hE.below b0 eU);go_upto_region 4 with(first|(go_at_call 47;refine CK.mono ?_;rintro e w1 ⟨hc,b1⟩;obtain⟨v,rfl,hv⟩:∃v,e=.returned v/\((jq l/\v=.nilIface)\/(¬jq l/\∃a,v=.iface 113 (.pointer (some a)))):=(by rcases hc with⟨k1,k2⟩|⟨k1,a,k2⟩;exact⟨_,k2,.inl ⟨k1,rfl⟩⟩;exact⟨_,k2,.inr ⟨xk k1,a,rfl⟩⟩))|(go_at_call_of 46 (h:Int);refine(IH _).mono ?_;rintro e w1 ⟨rfl,hw⟩;rw[hw];clear hw)|(go_at_call_of 46 (n:Int);refine(IS _).mono ?_;rintro e w1 ⟨rfl,hw⟩;rw[hw];clear hw));clear CK IS IH;have tV:=au b0 b1;have r1:=(b1.block _ (Array.getElem?_eq_some_iff.1 r0).1).trans r0;have q0:w1.cell? ⟨w.heap.size,0,none⟩=some (aa 0):=by simp[World.cell?,r1]
 have q1:w1.cell? ⟨w.heap.size,1,none⟩=some (aa 0):=by simp[World.cell?,r1]
 have q2:w1.cell? ⟨w.heap.size,2,none⟩=some (.slice none 0 0):=by simp[World.cell?,r1]
 have z:∀j,w1.frozen? ⟨w.heap.size,j,none⟩=false:=fun j=>by unfold World.frozen?;rw[r1];simp
 have z0:=z 0;have z1:=z 1;have z2:=z 2;rcases hv with⟨hok,rfl⟩|⟨hno,a,rfl⟩
 ·go_upto_region 7 with fail;have b2:=aL w1 (.cells #[aa n,aa h,.slice none 0 0] 40);have r2:=World.alloc_heap_new w1 (.cells #[aa n,aa h,.slice none 0 0] 40);have Tt:(w1.alloc (.cells #[aa n,aa h,.slice none 0 0] 40)).heap.size=w1.heap.size+1:=by simp
  obtain⟨V,hV⟩:∃V,w1.alloc (.cells #[aa n,aa h,.slice none 0 0] 40)=V:=⟨_,rfl⟩;obtain⟨B,hB⟩:∃B,w1.heap.size=B:=⟨_,rfl⟩;have hwB:w.heap.size<B:=by rw[<- hB];exact(Array.getElem?_eq_some_iff.1 r1).1
  have bwV:=au tV b2;rw[hV] at r2 Tt bwV⊢;have bB:Below B w1 V:=by rw[<- hB,<- hV];exact b2
  rw[hB] at r2 Tt⊢;have HB:Hid (w1.heap.size=B):=hB;clear hV hB b2 q0 q1 q2 z z0 z1 z2;obtain⟨i0,hi,hz0,hz1,hz2⟩:=info_parts Ga;go_wp2_with fail
  go_loopw [31] (fun i wr=>∃(k:Nat) (v:Value),k<=h/\i=aa k/\wr.heap[B]? =some (.cells #[aa n,aa h,v] 40)/\wr.ownsRow (B+1) 9 1 v (n*k) ((iZ aC (sP l) n k).map .string)/\Below B w1 wr) (fun i _=>h-(intOf i).toNat)
  case atStart=>exact⟨0,_,Nat.zero_le _,rfl,r2,World.ownsRow_nil _ _ _ _,bB⟩
  case round=>
   obtain⟨k,v,hk,rfl,hblk,hown,hb⟩:=hrel;have hb1:Below w1.heap.size w1 wr:=by rw[HB.out];exact hb
   have bwr:=au tV hb1;have hBs:B<wr.heap.size:=(Array.getElem?_eq_some_iff.1 hblk).1;obtain⟨c0,c1,c2,f0,f1,f2⟩:=jY.of hblk;by_cases hlt:k<h
   ·have hlt':(k:Int)<(h:Int):=by omega
    have RO:=fun V (hv:Below w.heap.size w V)=>Ez aB aS aZ aV l o cap n (k:Int) V (by omega) (by omega) (by omega) hl (hR.below hv) (hP.below hv eU) hok (hE.below hv eU);have hnk:n*k<=40*40:=Nat.mul_le_mul hn (by omega);go_upto_region 10 with fail;have hBB:B+1<=wr.heap.size:=hBs;have c2d:wr.drew.cell? (ag B 2)=some v:=c2;have hBv:∀r,v.ownBlock=some r->B<r:=fun r e=>by have:=(hown.lt r e).1;omega
    have RO2:∀V,Below wr.heap.size wr V->ak 48 #[.slice o l.length cap,aa n,aa (k:Int)] V fun e w4=>∃g1 dz,e=.returned (.slice (some ⟨g1,0,none⟩) n dz)/\w4.ownsRow (B+1) 9 1 v (n*k) ((iZ aC (sP l) n k).map .string)/\w4.ownsRow wr.heap.size 9 1 (.slice (some ⟨g1,0,none⟩) n dz) n ((mq aC (sP l) n (k:Int)).map .string)/\Below wr.heap.size wr w4/\w4.cell? (ag B 2)=some v/\B+1<=w4.heap.size:=fun V hV=>(RO V (au bwr hV)).mono (by
     rintro e w4 ⟨vr,rfl,owR,b4⟩;obtain⟨g1,dz,rfl, -, -⟩:=owR.form (by omega);have b5:=au hV b4;exact⟨g1,dz,rfl,own_below hown b5,eu owR hV.size,b5,(b5.cell (ay c2)).trans c2,by have:=b5.size;omega⟩)
    have KEEP:∀w4 w7,Below wr.heap.size wr w4->w4.grownBy w7 v.ownBlock->w7.heap[B]? =some (.cells #[aa n,aa h,v] 40)/\Below B w1 w7:=fun w4 w7 b4 gr=>by
     have h4:=(b4.block B hBs).trans hblk;refine⟨(gr.block B (Array.getElem?_eq_some_iff.1 h4).1 (fun e=>by have:=hBv B e.symm;omega)).trans h4,?_⟩;exact(hb.trans (b4.mono (by omega))).grown gr (by have:=b4.size;omega) (fun r e=>by have:=hBv r e;omega)
    clear RO
    go_region_law (first|(refine step_append_lies _ rfl (.tmp 35) (.tmp 39) 38 rfl (B+1) 9 i0 (.string ⟨#[]⟩) 1 16 underlying38 hi hz0 hz1 hz2 rfl (by decide) v (n*k) ((iZ aC (sP l) n k).map .string) rfl Vl ⟨g1,0,none⟩ n dz ((mq aC (sP l) n (k:Int)).map .string) rfl (by rw[List.length_map,ng,Nat.mul_one]) (Bv owR) (Gc _) (by omega) (by simp only[maxLen];omega) (by omega) (by omega) _ rfl ?_;intro g7 nH w7 jQ lU Mm a2W;obtain⟨hK7,bK7⟩:=KEEP _ _ b4 lU;obtain⟨-, -,cc7, -, -,ff7⟩:=jY.of hK7)|(go_simp;go_wp2_with(go_at_call 48;refine(RO2 _ (by exact(Below.refl _ _).drew)).mono ?_;rintro e w4 ⟨g1,dz,rfl,Vl,owR,b4,cc4,hs4⟩)))
    all_goals
     have hfin:(w7.setCell ⟨B,2,none⟩ (.slice (some ⟨g7,0,none⟩) (n*k+n) nH)).heap[B]? =some (.cells #[aa n,aa h,.slice (some ⟨g7,0,none⟩) (n*k+n) nH] 40):=by
      rw[heap_setCell_same w7 B 2 _ _ _ hK7];rfl
     have a7F:(iZ aC (sP l) n (k+1)).map Value.string=(iZ aC (sP l) n k).map Value.string++(mq aC (sP l) n (k:Int)).map Value.string:=by rw[wE,List.map_append]
     have Uu:Hid (_/\_):=And.intro hfin a7F;have HOW:Hid (w7.ownsRow (B+1) 9 1 (.slice (some ⟨g7,0,none⟩) (n*k+n) nH) (n*k+n) ((iZ aC (sP l) n k).map .string++(mq aC (sP l) n (k:Int)).map .string)):=jQ;clear hfin a7F jQ lU hK7 KEEP RO2 Vl owR;go_wp2_with fail
     go_roundw
     case rel=>
      refine⟨k+1,_,by omega,by go_num,Uu.out.1,?_,bK7.setCell eU _⟩;rw[Uu.out.2,Nat.mul_succ];exact fJ HOW.out (by simp) _
     case measure=>simp[intOf];omega
   ·obtain rfl:k=h:=by omega
    have r3:=(hb.block w.heap.size hwB).trans r1;obtain⟨q0,q1,q2,z0,z1,z2⟩:=jY.of r3;obtain⟨g,cp,rfl,hg,hgl⟩:=hown.form (Nat.mul_pos hn1 AZ);go_wp2_with fail;have r4:=Gb r3 (aa n) (aa k) (.slice (some ⟨g,0,none⟩) (n*k) cp);obtain⟨e0,e1,e2, -, -, -⟩:=jY.of r4;refine bodyPost_ret (v:=.tuple #[.agg #[aa n,aa k,.slice (some ⟨g,0,none⟩) (n*k) cp],.nilIface]) (by simp[results,results25,go_sem,e0,e1,e2]) rfl ?_;refine⟨.inl ⟨hok,_,rfl,?_⟩,((bwr.setCell eU _).setCell eU _).setCell eU _⟩;exact eu (fJ (fJ (fJ hown (by simp;omega) _) (by simp;omega) _) (by simp;omega) _) (by omega)
 ·go_wp2_with fail;have r3:=Gb r1 (aa 0) (aa 0) (.slice none 0 0);obtain⟨e0,e1,e2, -, -, -⟩:=jY.of r3;refine bodyPost_ret (v:=.tuple #[.agg #[aa 0,aa 0,.slice none 0 0],.iface 113 (.pointer (some a))]) (by simp[results,results25,go_sem,e0,e1,e2]) rfl ?_;exact⟨.inr ⟨hno,a,rfl⟩,((tV.setCell eU _).setCell eU _).setCell eU _⟩
end
section
open Go.RowKit Go.Maps
set_option maxHeartbeats 8000000
set_option maxRecDepth 20000
def a8r (M:Dm):Prop:=∀i e,M i=some e->e.ats.length<=1000000/\e.kids.length<=1000000/\∀a∈e.ats,a.1.length<=maxLen/\a.2.length<=maxLen
theorem Cf {w:World}{B:Nat}{v:Value}{l:List (Bs×Bs)}(h:w.ownsRow B 65 2 v l.length (aF l))(hl:∀a∈l,a.1.length<=maxLen/\a.2.length<=maxLen):kg w v l:=by
 obtain⟨o,cap,hv,hc,hm,hn,hg⟩:=bA h;refine⟨o,cap,hv,hc,hm,hn,fun i x hx=>?_⟩;obtain⟨h0,h1⟩:=uu l i x hx;obtain⟨g,hg1,c0⟩:=bJ h _ _ h0;obtain⟨g',hg2,c1⟩:=bJ h _ _ h1;rw[hg1] at hg2;cases hg2;exact⟨g,0,hg g hg1,by simpa using c0,by simpa using c1,hl x (List.mem_of_getElem? hx)⟩
theorem Sl {w0:World}{N nx:Nat}{M:Dm}(hN:w0.heap[N+1]? =some (.cells #[.map (some N),.int .i64 nx] 85))(hm:iA prog 3 w0 N (fun _=>none) 0 0)(hM:∀i,M i=none)(hf:nx<=1000000)(hz:N+1<w0.heap.size):
  bG N (fun x=>if x=N then some .map else if x=N+1 then some .doc else none) w0 (N+1) N (fun _=>none) M nx 0 where
 doc:=hN
 jP:=by rw[if_neg (by omega),if_pos rfl]
 map:=by
  obtain⟨D,h1,h2⟩:=hm;exact⟨D,h1.mono (Nat.zero_le _),h2⟩
 kF:=by rw[if_pos rfl]
 els:=fun i e he=>by rw[hM i] at he;cases he
 non:=fun i _=>rfl
 low:=fun b t ht=>by
  split at ht
  ·omega
  ·split at ht
   ·omega
   ·cases ht
 dom:=fun i e he=>by rw[hM i] at he;cases he
 wf:=fun i e he=>by rw[hM i] at he;cases he
 few:=hf
 Tu:=fun b i hb=>by
  rcases hb with hb|hb|hb
  all_goals
   split at hb
   ·cases hb
   ·split at hb
    ·cases hb
    ·cases hb
theorem iA.a0B {P:Program}{K T E:TypeId}{w:World}{B n c:Nat}{p:Int->Option Nat}(h:iA P K w B p n c)(hK:P.underlying K=some (.int .i64))(hT:P.underlying T=some (.map K E))(hn:n<maxLen){k:Int}(hk:(Lit.int .i64 k).wf=true)(b:Nat)(hb:p k=none):
  ∃w',(Instr.mapUpdate T (.map (some B)) (.int .i64 k) (aj b)).run P w=.ok () w'/\iA P K w' B (fun i=>if i=k then some b else p i) (n+1) (c+1)/\w.mapTurned w' B:=by
 obtain⟨D,h1,h2,h3⟩:=h;obtain⟨w',r0,r1,r2⟩:=h1.store (int_keyed hK) hT hn (keyOf_int_mk hK hk) (Ee b);refine⟨w',r0,⟨_,r1,?_,fun i=>?_⟩,r2⟩
 ·have hh:Maps.has D (.int .i64 k)=false:=by rw[(h3 k).1,hb];rfl
  rw[size_put (h1.tidy (int_keyed hK)),hh,h2];rfl
 ·by_cases hi:i=k
  ·subst hi;simp only[if_pos];exact⟨has_put_same h1.isMap (yY i) _,fun b' hb' zd=>by cases hb';exact atKey_put_same h1.isMap (yY i) _ _⟩
  ·simp only[if_neg hi];have hne:(Lit.int .i64 i)≠(Lit.int .i64 k):=fun e=>hi (by cases e;rfl);exact⟨(has_put_other hne _).trans (h3 i).1,fun b' hb' zd=>(atKey_put_other hne _ _).trans ((h3 i).2 b' hb' zd)⟩
def CS5 (N b:Nat)(nm:Bs)(va:Value)(pr:Int)(vk:Value)(w:World):Prop:=w.cell? (ag (N+1) 0)=some (.map (some N))/\w.cell? (ag b 0)=some (.string ⟨nm.toArray⟩)/\w.cell? (ag b 1)=some va/\w.cell? (ag b 2)=some (.int .i64 pr)/\w.cell? (ag b 3)=some vk
theorem CS5.keep {N b:Nat}{nm:Bs}{va:Value}{pr:Int}{vk:Value}{w w':World}(h:CS5 N b nm va pr vk w)(hb:Below w.heap.size w w'):CS5 N b nm va pr vk w':=by
 obtain⟨h1,h2,h3,h4,h5⟩:=h;exact⟨(hb.cell (ax h1)).trans h1,(hb.cell (ax h2)).trans h2,(hb.cell (ax h3)).trans h3,(hb.cell (ax h4)).trans h4,(hb.cell (ax h5)).trans h5⟩
theorem Kl {P:Program}{k:TypeId}{R:Value->Option (DataW Unit×List MemPlace)}{w w':World}{b r n:Nat}{D:DataW Unit}{left:Lit->Bool}{cnt:Nat}(h:w.ranges P k R b r n D left cnt)(hb:w'.heap[b]? =w.heap[b]?)(hr:w'.heap[r]? =w.heap[r]?):w'.ranges P k R b r n D left cnt:=by
 obtain⟨es,cl,si,se,c0,h1,h2,h3,h4,h5,h6⟩:=h;exact⟨es,cl,si,se,c0,hb.trans h1,h2,h3,h4,hr.trans h5,h6⟩
theorem acS (v:Value)(y:DataW Unit×List MemPlace)(h:rZ v=some y):∃a:Option Addr,v=.pointer a:=by
 cases v<;>try cases h
 exact⟨_,rfl⟩
theorem Sm {B:Nat}{tg:kE}{W:World}{DB MB:Nat}{p:Int->Option Nat}{M:Dm}{nx c:Nat}(h:bG B tg W DB MB p M nx c)(hC:Cd M c)(hK:a8r M):
  ak 28 #[aj DB] W fun e w'=>Below W.heap.size W w'/\∃DB' MB' uF p',e=.returned (aj DB')/\bG W.heap.size uF w' DB' MB' p' M nx c:=by
 have hmm:=@run_makeMap prog;obtain⟨D,hown,hsz,hD⟩:=id h.map;have d0:=h.d0;have d1:=h.d1;have e1:((W.alloc (.map #[] 0)).alloc (.cells #[.map (some W.heap.size),.int .i64 nx] 85)).heap.size=W.heap.size+1+1:=by simp
 have b2:Below W.heap.size W ((W.alloc (.map #[] 0)).alloc (.cells #[.map (some W.heap.size),.int .i64 nx] 85)):=((Below.refl _ _).alloc eU _).alloc (by simp) _;have hown2:=(hown.alloc (.map #[] 0)).alloc (.cells #[.map (some W.heap.size),.int .i64 nx] 85);have d1a:=((aW W (.map #[] 0)).cell (ax d1)).trans d1;have d0a:=(b2.cell (ax d0)).trans d0;go_enter func28,ntmps28;go_wp2_with(first
  |(at_range;refine wpList_range_own _ rfl _ 83 rfl 3 86 (int_keyed underlying3) underlying83 rZ MB nx D rfl hown2 ?_;intro w0 hrg0 hg0 hs0)
  |go_in)
 go_frame
 rw[e1] at hrg0 hs0⊢
 go_loopw [4] (fun _ wr=>∃(left:Lit->Bool) (cnt:Nat) (uF:kE) (p':Int->Option Nat) (c':Nat),wr.ranges prog 3 rZ MB (W.heap.size+1+1) nx D left cnt/\(∀z,left z=true->Maps.has D z=true)/\bG W.heap.size uF wr (W.heap.size+1) W.heap.size p' (nM M left) nx c'/\Cd (nM M left) c'/\uF (W.heap.size+1+1)=none/\iA prog 3 wr W.heap.size p' c' c'/\Below W.heap.size W wr)
  (fun _ wr=>wr.rangeLeft MB (W.heap.size+1+1))
 case atStart=>
  have hn0:∀i,nM M (Maps.has D) i=none:=fun i=>by
   unfold nM;split
   ·rfl
   ·next hh=>
    cases hm:M i with
    |none=>rfl
    |some e=>
     obtain⟨b,va,vk,hp, -⟩:=h.els i e hm;rw[(hD i).1,hp] at hh;exact absurd rfl hh
  have k1:w0.heap[W.heap.size+1]? =some (.cells #[.map (some W.heap.size),.int .i64 nx] 85):=by
   rw[hg0.block _ (by rw[e1];omega) (by simp)];have:=dh (W.alloc (.map #[] 0)) #[.map (some W.heap.size),.int .i64 nx] 85;simpa using this
  have pm:=((iA.made W prog 3).kept (World.grownBy_alloc _ (.cells #[.map (some W.heap.size),.int .i64 nx] 85) none) (by simp)).kept hg0 (by simp);exact⟨_,_,_,_,0,hrg0,fun z hz=>hz,Sl k1 pm hn0 h.few (by omega),⟨[],List.nodup_nil,rfl,fun x=>by simp[hn0 x]⟩,by rw[if_neg (by omega),if_neg (by omega)],pm,b2.grown hg0 (by rw[e1];omega) (fun j hj=>by cases hj)⟩
 case round=>
  obtain⟨left,cnt,uF,p',c',hrg,hlh,hd,hcd,htn,hpm,hb⟩:=hrel;go_wp2_with(first
   |(at_next;refine wpList_next_ranges _ rfl _ rfl 3 (int_keyed underlying3) rZ (Value.int .i64) Value.pointer (fun key kl hkey=>by obtain⟨x,rfl,_⟩:=Maps.keyOf_int_inv underlying3 hkey;exact⟨x,rfl⟩) acS MB (W.heap.size+1+1) nx D left cnt rfl hrg ?_ ?_)
   |go_in)
  ·intro hc0 hl0;go_wp2_with fail;go_ret;have he:nM M left=M:=by
    funext i;unfold nM;rw[hl0,if_neg (by simp)]
   rw[he] at hd hcd;obtain rfl:=hcd.uniq hC;exact⟨hb,_,_,uF,p',rfl,hd⟩
  ·intro x ca kl y1 y2 w1 cnt1 hkey hlx hv hat hrg1 hlt hg1 hs1 hen;obtain⟨k,ek,ekl,hwk⟩:=Maps.keyOf_int_inv underlying3 hkey;cases ek;subst ekl;have hpk:(p x).isSome=true:=by rw[<- (hD x).1];exact hlh _ hlx
   obtain⟨b,hpb⟩:=Option.isSome_iff_exists.1 hpk;have hy1:=hat (.map []);rw[(hD x).2 b hpb] at hy1;subst hy1;have hca:=Jh hv;cases hca;obtain⟨e,hMx⟩:∃e,M x=some e:=by
    cases hm:M x with
    |none=>rw[h.non x hm] at hpb;cases hpb
    |some e=>exact⟨e,rfl⟩
   obtain⟨b',va,vk,a8t,he⟩:=h.els x e hMx;rw[hpb] at a8t;cases a8t;obtain⟨hk1,hk2,hk3⟩:=hK x e hMx;have hdom:=h.dom x e hMx;have hwf:=h.wf x e hMx;have hb1:Below W.heap.size W w1:=hb.grown hg1 hb.size (fun j hj=>by cases hj;omega);have hr1:∀j,j<wr.heap.size->j≠W.heap.size+1+1->w1.heap[j]? =wr.heap[j]? :=fun j hj hn=>hg1.block j hj (fun e1=>hn (Option.some.inj e1));have hd1:bG W.heap.size uF w1 (W.heap.size+1) W.heap.size p' (nM M left) nx c':=hd.turn (fun g t ht=>hr1 g (hd.low g t ht).2 (fun e1=>by rw[e1,htn] at ht;cases ht)) (by omega);have a8u:iA prog 3 w1 W.heap.size p' c' c':=hpm.same (hr1 _ hpm.lt (by omega));have hno:nM M left x=none:=by unfold nM;rw[hlx];rfl
   have hcc:c'+1<=c:=hcd.a3A hC (fun i f hf=>by unfold nM at hf;split at hf;cases hf;exact⟨f,hf⟩) hno ⟨e,hMx⟩;have hcn:=h.map.size_le;obtain⟨ova,kva,hva⟩:=aI he.ats;obtain⟨ovk,kvk,hvk⟩:=aI he.kids;subst hva hvk;have hS:CS5 W.heap.size b e.name (.slice ova e.ats.length kva) e.parent (.slice ovk e.kids.length kvk) w1.drew:=⟨hd1.d0,(hb1.cell (ax he.c0)).trans he.c0,(hb1.cell (ax he.c1)).trans he.c1,(hb1.cell (ax he.c2)).trans he.c2,(hb1.cell (ax he.c3)).trans he.c3⟩;have CA:=Mk w1.drew _ e.ats (Cf (aK he.ats (below_drewN hb1 1)) hk3) hk1;have CI:=fun V (hV:Below W.heap.size W V)=>VW V _ e.kids (aK he.kids hV) hk2;have HB1:Hid (Below W.heap.size W w1):=hb1;have HHE:Hid (yf B tg W x b e (.slice ova e.ats.length kva) (.slice ovk e.kids.length kvk)):=he;clear hb1 he hd hpm hr1 hat;go_upto_region 5 with fail;refine BL (CS5 W.heap.size b e.name (.slice ova e.ats.length kva) e.parent (.slice ovk e.kids.length kvk)) 25 (by kernel_rfl) ?_;refine aR (v:=?v0) 0 rfl (by kernel_rfl) (by kernel_rfl) (by kernel_rfl) (by kernel_rfl) (fun _ _ _ h=>h) hS (.inl ⟨rfl,fun w hw=>?hy0⟩) ?hr0
   case hy0=>obtain⟨g1,g2,g3,g4,g5⟩:=hw;go_simp;try with_reducible rfl
   simp only[Act.put,List.setIfInBounds_toArray];refine aR (v:=?v1) 1 rfl (by kernel_rfl) (by kernel_rfl) (by kernel_rfl) (by kernel_rfl) (fun _ _ _ h=>h) hS (.inl ⟨rfl,fun w hw=>?hy1⟩) ?hr1
   case hy1=>obtain⟨g1,g2,g3,g4,g5⟩:=hw;go_simp;try with_reducible rfl
   simp only[Act.put];refine aR (v:=?v2) 2 rfl (by kernel_rfl) (by kernel_rfl) (by kernel_rfl) (by kernel_rfl) (fun _ _ _ h=>h) hS (.inl ⟨rfl,fun w hw=>?hy2⟩) ?hr2
   case hy2=>obtain⟨g1,g2,g3,g4,g5⟩:=hw;go_simp;try with_reducible rfl
   simp only[Act.put];refine aR (v:=?v3) 3 rfl (by kernel_rfl) (by kernel_rfl) (by kernel_rfl) (by kernel_rfl) (fun _ _ _ h=>h) hS (.inl ⟨rfl,fun w hw=>?hy3⟩) ?hr3
   case hy3=>obtain⟨g1,g2,g3,g4,g5⟩:=hw;go_simp;try with_reducible rfl
   simp only[Act.put];refine aR (v:=?v4) 4 rfl (by kernel_rfl) (by kernel_rfl) (by kernel_rfl) (by kernel_rfl) (fun _ _ _ h=>h) hS (.inl ⟨rfl,fun w hw=>?hy4⟩) ?hr4
   case hy4=>obtain⟨g1,g2,g3,g4,g5⟩:=hw;go_simp;try with_reducible rfl
   simp only[Act.put];refine aR (v:=?v5) 5 rfl (by kernel_rfl) (by kernel_rfl) (by kernel_rfl) (by kernel_rfl) (fun _ _ _ h=>h) hS (.inl ⟨rfl,fun w hw=>?hy5⟩) ?hr5
   case hy5=>obtain⟨g1,g2,g3,g4,g5⟩:=hw;go_simp;try with_reducible rfl
   simp only[Act.put];refine aR (v:=?v6) 6 rfl (by kernel_rfl) (by kernel_rfl) (by kernel_rfl) (by kernel_rfl) (fun _ _ _ h=>h) hS (.inl ⟨rfl,fun w hw=>?hy6⟩) ?hr6
   case hy6=>obtain⟨g1,g2,g3,g4,g5⟩:=hw;go_simp;try with_reducible rfl
   simp only[Act.put];refine aR (v:=?v7) 7 rfl (by kernel_rfl) (by kernel_rfl) (by kernel_rfl) (by kernel_rfl) (fun _ _ _ h=>h) hS (.inl ⟨rfl,fun w hw=>?hy7⟩) ?hr7
   case hy7=>obtain⟨g1,g2,g3,g4,g5⟩:=hw;go_simp;try with_reducible rfl
   simp only[Act.put];refine aR (v:=?v8) 8 rfl (by kernel_rfl) (by kernel_rfl) (by kernel_rfl) (by kernel_rfl) (fun _ _ _ h=>h) hS (.inl ⟨rfl,fun w hw=>?hy8⟩) ?hr8
   case hy8=>obtain⟨g1,g2,g3,g4,g5⟩:=hw;go_simp;try with_reducible rfl
   simp only[Act.put];refine aR (v:=?v9) 9 rfl (by kernel_rfl) (by kernel_rfl) (by kernel_rfl) (by kernel_rfl) (fun _ _ _ h=>h) hS (.inl ⟨rfl,fun w hw=>?hy9⟩) ?hr9
   case hy9=>obtain⟨g1,g2,g3,g4,g5⟩:=hw;go_simp;try with_reducible rfl
   simp only[Act.put];refine aR (v:=?v10) 10 rfl (by kernel_rfl) (by kernel_rfl) (by kernel_rfl) (by kernel_rfl) (fun _ _ _ h=>h) hS (.inl ⟨rfl,fun w hw=>?a4c⟩) ?acu
   case a4c=>obtain⟨g1,g2,g3,g4,g5⟩:=hw;go_simp;try with_reducible rfl
   simp only[Act.put];refine aR (v:=?v11) 11 rfl (by kernel_rfl) (by kernel_rfl) (by kernel_rfl) (by kernel_rfl) (fun _ _ _ h=>h) hS (.inl ⟨rfl,fun w hw=>?a4d⟩) ?acv
   case a4d=>obtain⟨g1,g2,g3,g4,g5⟩:=hw;go_simp;try with_reducible rfl
   simp only[Act.put];refine aR (v:=?v12) 12 rfl (by kernel_rfl) (by kernel_rfl) (by kernel_rfl) (by kernel_rfl) (fun _ _ _ h=>h) hS (.inl ⟨rfl,fun w hw=>?a4e⟩) ?acw
   case a4e=>obtain⟨g1,g2,g3,g4,g5⟩:=hw;go_simp;try with_reducible rfl
   simp only[Act.put];refine aR (v:=?v14) 14 rfl (by kernel_rfl) (by kernel_rfl) (by kernel_rfl) (by kernel_rfl) (fun _ _ _ h=>h) hS (.inl ⟨rfl,fun w hw=>?a4f⟩) ?acz
   case a4f=>obtain⟨g1,g2,g3,g4,g5⟩:=hw;go_simp;try with_reducible rfl
   simp only[Act.put];refine aR (v:=?v15) 15 rfl (by kernel_rfl) (by kernel_rfl) (by kernel_rfl) (by kernel_rfl) (fun _ _ _ h=>h) hS (.inl ⟨rfl,fun w hw=>?a4g⟩) ?acA
   case a4g=>obtain⟨g1,g2,g3,g4,g5⟩:=hw;go_simp;try with_reducible rfl
   simp only[Act.put];refine aR (v:=?v16) 16 rfl (by kernel_rfl) (by kernel_rfl) (by kernel_rfl) (by kernel_rfl) (fun _ _ _ h=>h) hS (.inl ⟨rfl,fun w hw=>?a4h⟩) ?acB
   case a4h=>obtain⟨g1,g2,g3,g4,g5⟩:=hw;go_simp;try with_reducible rfl
   simp only[Act.put];refine aR (v:=?v17) 17 rfl (by kernel_rfl) (by kernel_rfl) (by kernel_rfl) (by kernel_rfl) (fun _ _ _ h=>h) hS (.inl ⟨rfl,fun w hw=>?a4i⟩) ?acC
   case a4i=>obtain⟨g1,g2,g3,g4,g5⟩:=hw;go_simp;try with_reducible rfl
   simp only[Act.put];refine aR (v:=?v18) 18 rfl (by kernel_rfl) (by kernel_rfl) (by kernel_rfl) (by kernel_rfl) (fun _ _ _ h=>h) hS (.inl ⟨rfl,fun w hw=>?a4j⟩) ?acD
   case a4j=>obtain⟨g1,g2,g3,g4,g5⟩:=hw;go_simp;try with_reducible rfl
   simp only[Act.put];refine aR (v:=?v19) 19 rfl (by kernel_rfl) (by kernel_rfl) (by kernel_rfl) (by kernel_rfl) (fun _ _ _ h=>h) hS (.inl ⟨rfl,fun w hw=>?acT⟩) ?ajd
   case acT=>obtain⟨g1,g2,g3,g4,g5⟩:=hw;go_simp;try with_reducible rfl
   simp only[Act.put];refine aR (v:=?v20) 20 rfl (by kernel_rfl) (by kernel_rfl) (by kernel_rfl) (by kernel_rfl) (fun _ _ _ h=>h) hS (.inl ⟨rfl,fun w hw=>?a4k⟩) ?acE
   case a4k=>obtain⟨g1,g2,g3,g4,g5⟩:=hw;go_simp;try with_reducible rfl
   simp only[Act.put];refine aR (v:=?v21) 21 rfl (by kernel_rfl) (by kernel_rfl) (by kernel_rfl) (by kernel_rfl) (fun _ _ _ h=>h) hS (.inl ⟨rfl,fun w hw=>?a4l⟩) ?acF
   case a4l=>obtain⟨g1,g2,g3,g4,g5⟩:=hw;go_simp;try with_reducible rfl
   simp only[Act.put];refine jv 13 (by kernel_rfl) rfl (fun K hK=>?_);go_simp;go_wp2_with(go_at_call 42;refine CA.mono ?_;rintro e2 w2 ⟨o2,n2,k2,rfl,Cs,b2'⟩);have b12:Below w1.heap.size w1 w2:=⟨b2'.os,b2'.tape,b2'.output,b2'.size,b2'.block⟩;have hS2:=hS.keep b2';refine hK.out _ _ (fun _=>hS2) ?_;clear hK;have CI2:=CI w2 (az HB1.out b12);refine jv 22 (by kernel_rfl) rfl (fun K hK=>?_);go_simp;go_wp2_with(go_at_call 56;refine CI2.mono ?_;rintro e3 w3 ⟨o3,k3,rfl,yK,sj⟩);have hS3:=hS2.keep sj;refine hK.out _ _ (fun _=>hS3) ?_;clear hK;have b13:=az b12 sj;refine jv 23 (by kernel_rfl) rfl (fun K hK=>?_);go_simp;refine hK.out _ _ (fun _=>hS3) ?_;clear hK;refine jv 24 (by kernel_rfl) rfl (fun K hK=>?_);go_simp;have hS4:=hS3.keep (aW w3 (.cells #[.string ⟨e.name.toArray⟩,.slice o2 n2 k2,.int .i64 e.parent,.slice o3 e.kids.length k3] 90));refine hK.out _ _ (fun _=>hS4) ?_;clear hK;have b14:=az b13 (aW w3 (.cells #[.string ⟨e.name.toArray⟩,.slice o2 n2 k2,.int .i64 e.parent,.slice o3 e.kids.length k3] 90));have acU:=a8u.same (b14.block _ a8u.lt);obtain⟨w5,hrun,a8w,htu⟩:=iA.a0B (T:=83) acU underlying3 underlying83 (by have:=h.few;simp only[maxLen];omega) hwk w3.heap.size (hd1.non x hno);refine jv 25 (by kernel_rfl) rfl (fun K hK=>?_);go_simp;refine hK.out _ _ (fun h=>absurd rfl h) ?_;clear hK;refine Nl (by kernel_rfl) ?_ _;have hrl:W.heap.size+1+1<w1.heap.size:=by
    obtain⟨es,cl,si,se,c0, -, -, -, -,h5, -⟩:=hrg1;exact aD h5
   have hMB:MB<W.heap.size:=hown.lt;have he:=HHE.out;have sz4:=b14.size;have e5:∀j,j≠W.heap.size->w5.heap[j]? =(w3.alloc (.cells #[.string ⟨e.name.toArray⟩,.slice o2 n2 k2,.int .i64 e.parent,.slice o3 e.kids.length k3] 90)).heap[j]? :=fun j hj=>by
    rcases Nat.lt_or_ge j (w3.alloc (.cells #[.string ⟨e.name.toArray⟩,.slice o2 n2 k2,.int .i64 e.parent,.slice o3 e.kids.length k3] 90)).heap.size with h1|h1
    ·exact htu.grown.block j h1 (fun e1=>hj (Option.some.inj e1))
    ·obtain⟨es,cl,es',cl',h2,h3⟩:=htu;rw[h3,Array.getElem?_eq_none h1,Array.getElem?_eq_none];simpa[ChangeMaps.setBlock] using h1
   have e15:∀j,j<w1.heap.size->j≠W.heap.size->w5.heap[j]? =w1.heap[j]? :=fun j hj hn=>(e5 j hn).trans (b14.block j hj);have RG:w5.ranges prog 3 rZ MB (W.heap.size+1+1) nx D (fun z=>left z && !z.sameKey (.int .i64 x)) cnt1:=Kl hrg1 (e15 MB (by omega) (by omega)) (e15 _ hrl (by omega));have Vj:=aK Cs (az sj (aW w3 (.cells #[.string ⟨e.name.toArray⟩,.slice o2 n2 k2,.int .i64 e.parent,.slice o3 e.kids.length k3] 90)));have acV:=aK yK (aW w3 (.cells #[.string ⟨e.name.toArray⟩,.slice o2 n2 k2,.int .i64 e.parent,.slice o3 e.kids.length k3] 90));have l2:∀g,(Value.slice o2 n2 k2).ownBlock=some g->w1.heap.size<=g/\g<w2.heap.size:=fun g hg=>Cs.lt g hg;have l3:∀g,(Value.slice o3 e.kids.length k3).ownBlock=some g->w2.heap.size<=g/\g<w3.heap.size:=fun g hg=>yK.lt g hg;have s12:=b12.size;have s23:=sj.size;have sW:=HB1.out.size;have NE:Vd W.heap.size uF (w3.alloc (.cells #[.string ⟨e.name.toArray⟩,.slice o2 n2 k2,.int .i64 e.parent,.slice o3 e.kids.length k3] 90)) w3.heap.size e (.slice o2 n2 k2) (.slice o3 e.kids.length k3):=
    ⟨dh w3 _ _,by omega,hd1.new (by omega),eu Vj sW,fun g hg=>⟨hd1.new (l2 g hg).1,by have:=l2 g hg;omega⟩,eu acV (by omega),fun g hg=>⟨hd1.new (by have:=l3 g hg;omega),by have:=l3 g hg;omega,fun e1=>by have:=l2 g e1;have:=l3 g hg;omega⟩⟩
   have RZ:=h.few;have DW:=(hd1.below b14).a7C hdom.1 hdom.2 NE hwf (w':=w5) (a8w.mono (by omega)) e5 htu.grown.size;have hCd:=hcd.put hno e;rw[<- MX hMx] at DW hCd;have TG:lJ uF x w3.heap.size (.slice o2 n2 k2) (.slice o3 e.kids.length k3) (W.heap.size+1+1)=none:=by
    unfold lJ;rw[if_neg (by omega),if_neg (fun e1=>by have:=l2 _ e1;omega),if_neg (fun e1=>by have:=l3 _ e1;omega)];exact htn
   have FIN:Hid (_/\_/\_/\_/\_/\_):=And.intro RG (And.intro DW (And.intro hCd (And.intro TG (And.intro a8w ((HB1.out.trans (b14.mono sW)).grown htu.grown (by omega) (fun j hj=>by cases hj;exact Nat.le_refl _))))));have MEA:Hid (w5.rangeLeft MB (W.heap.size+1+1)<wr.rangeLeft MB (W.heap.size+1+1)):=(by rw[RG.left_eq,hrg.left_eq];exact hlt:w5.rangeLeft MB (W.heap.size+1+1)<wr.rangeLeft MB (W.heap.size+1+1));have HLH:∀z,(left z && !z.sameKey (.int .i64 x))=true->Maps.has D z=true:=fun z hz=>hlh z (by simp only[Bool.and_eq_true] at hz;exact hz.1);clear RG DW hCd TG NE e5 e15;go_wp2_with fail
   go_roundw
   case rel=>
    obtain⟨h1,h2,h3,h4,h5,h6⟩:=FIN.out;exact⟨_,cnt1,_,_,_,h1,HLH,h2,h3,h4,h5,h6⟩
   case measure=>exact MEA.out
end
end Go.Proofs.YtjfiehbcamfdfaaGreatDoor

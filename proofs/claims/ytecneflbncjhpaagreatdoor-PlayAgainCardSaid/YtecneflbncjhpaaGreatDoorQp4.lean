/- Parts of the proof. -/
import Derived.Test.YtecneflbncjhpaaGreatDoorQp3
namespace Go.Proofs.YtecneflbncjhpaaGreatDoor
open Go.Proofs.Tryz
set_option maxHeartbeats 16000000
section
open Go.RowKit
def cells5:List P5->List ah
 |[]=>[]
 |a::r=>aa a.nd:: .slice a.o a.s.pts.length a.cap:: .string a.s.fill:: .string a.s.rule::aa a.lv::cells5 r
theorem Bh:∀l:List P5,(cells5 l).length=l.length*5
 |[]=>rfl
 |x::r=>by simp[cells5,Bh r];omega
theorem uT:∀(l:List P5) (i:Nat) (x:P5),l[i]? =some x->(cells5 l)[i*5]? =some (aa x.nd)/\(cells5 l)[i*5+1]? =some (.slice x.o x.s.pts.length x.cap)/\(cells5 l)[i*5+2]? =some (.string x.s.fill)/\(cells5 l)[i*5+3]? =some (.string x.s.rule)/\(cells5 l)[i*5+4]? =some (aa x.lv)
 |[],i,x,h=>by simp at h
 |y::r,0,x,h=>by simp at h;subst h;exact⟨rfl,rfl,rfl,rfl,rfl⟩
 |y::r,i+1,x,h=>by
  have h1:=uT r i x (by simpa using h);have e:(i+1)*5=i*5+5:=by omega
  rw[e];exact h1
theorem uU:∀(l:List P5) (j:Nat) (u:ah),(cells5 l)[j]? =some u->∃i x,l[i]? =some x/\((j=i*5/\u=aa x.nd)\/(j=i*5+1/\u=.slice x.o x.s.pts.length x.cap)\/(j=i*5+2/\u=.string x.s.fill)\/(j=i*5+3/\u=.string x.s.rule)\/(j=i*5+4/\u=aa x.lv))
 |[],j,u,h=>by simp[cells5] at h
 |x::r,0,u,h=>by simp[cells5] at h;exact⟨0,x,rfl,.inl ⟨rfl,h.symm⟩⟩
 |x::r,1,u,h=>by simp[cells5] at h;exact⟨0,x,rfl,.inr (.inl ⟨rfl,h.symm⟩)⟩
 |x::r,2,u,h=>by simp[cells5] at h;exact⟨0,x,rfl,.inr (.inr (.inl ⟨rfl,h.symm⟩))⟩
 |x::r,3,u,h=>by simp[cells5] at h;exact⟨0,x,rfl,.inr (.inr (.inr (.inl ⟨rfl,h.symm⟩)))⟩
 |x::r,4,u,h=>by simp[cells5] at h;exact⟨0,x,rfl,.inr (.inr (.inr (.inr ⟨rfl,h.symm⟩)))⟩
 |x::r,j+5,u,h=>by
  have h':(cells5 r)[j]? =some u:=by simpa[cells5] using h
  obtain⟨i,y,h1,h2⟩:=uU r j u h';refine⟨i+1,y,by simpa using h1,?_⟩;rcases h2 with⟨a,b⟩|⟨a,b⟩|⟨a,b⟩|⟨a,b⟩|⟨a,b⟩
  ·exact .inl ⟨by omega,b⟩
  ·exact .inr (.inl ⟨by omega,b⟩)
  ·exact .inr (.inr (.inl ⟨by omega,b⟩))
  ·exact .inr (.inr (.inr (.inl ⟨by omega,b⟩)))
  ·exact .inr (.inr (.inr (.inr ⟨by omega,b⟩)))
theorem NL (l:List P5):∀u∈cells5 l,u.oneCell'=true:=fun u hu=>by
 obtain⟨j,hj⟩:=List.getElem?_of_mem hu;obtain⟨i,x, -,⟨-,rfl⟩|⟨-,rfl⟩|⟨-,rfl⟩|⟨-,rfl⟩|⟨-,rfl⟩⟩:=uU l j u hj<;>rfl
theorem Jz {w:ag}{a:Addr}{l:List P5}(h:iH w (some a) l):∀j u,(cells5 l)[j]? =some u->w.cell? (a.add j)=some u:=fun j u hu=>by
 obtain⟨i,x,hx,h2⟩:=uU l j u hu;obtain⟨b,off,h3,c0,c1,c2,c3,c4⟩:=h i x hx;cases h3;rw[addr_add];rcases h2 with⟨rfl,rfl⟩|⟨rfl,rfl⟩|⟨rfl,rfl⟩|⟨rfl,rfl⟩|⟨rfl,rfl⟩
 ·exact c0
 ·rw[<- Nat.add_assoc];exact c1
 ·rw[<- Nat.add_assoc];exact c2
 ·rw[<- Nat.add_assoc];exact c3
 ·rw[<- Nat.add_assoc];exact c4
def Own5 (w:ag)(base:Nat)(v:ah)(l:List P5):Prop:=w.ownsRow base 134 5 v l.length (cells5 l)
structure zO (w:ag)(o:Option Addr)(cap:Nat)(l:List P5):Prop where
 at_:iH w o l
 le:l.length<=cap
 no:o=none->cap=0
theorem zO.below {w w':ag}{o:Option Addr}{cap:Nat}{l:List P5}(h:zO w o cap l)(hb:Below w.heap.size w w'):zO w' o cap l:=⟨h.at_.below hb ai,h.le,h.no⟩
structure JA (w:ag)(b:Nat)(l:List P5):Prop where
 c:∀i x,l[i]? =some x->Qf w b (i*5) x
 f:∀j,j<l.length*5->w.frozen? ⟨b,j,none⟩=false
theorem JA.at_ {w:ag}{b:Nat}{l:List P5}(h:JA w b l):iH w (some ⟨b,0,none⟩) l:=fun i x hx=>⟨b,0,rfl,by rw[Nat.zero_add];exact h.c i x hx⟩
theorem JA.below {w w':ag}{b:Nat}{l:List P5}(h:JA w b l)(hb:Below w.heap.size w w')(hl:b<w.heap.size):JA w' b l:=⟨fun i x hx=>(h.c i x hx).below hb ai,fun j hj=>(hb.frozen (p:=⟨b,j,none⟩) hl).trans (h.f j hj)⟩
theorem Own5.rw {w:ag}{base:Nat}{v:ah}{l:List P5}(h:Own5 w base v l):(v=.slice none 0 0/\l=[])\/∃b cap,v=.slice (some ⟨b,0,none⟩) l.length cap/\base<=b/\b<w.heap.size/\l.length<=cap/\JA w b l:=by
 have hO:=h;rcases h.2 with⟨rfl,h0⟩|⟨g,cap,cur,rfl,hg,hblk,hle,hsz,hfr⟩
 ·exact .inl ⟨rfl,iC.1 h0⟩
 ·refine .inr ⟨g,cap,rfl,hg,(cZ.1 hblk).1,hle,?_,?_⟩
  ·intro i x hx;have hc:∀j u,(cells5 l)[j]? =some u->w.cell? (ak g j)=some u:=fun j u hj=>by
    have:=World.ownsRow.cells hO (g:=g) rfl j u hj;rw[addr_add,Nat.zero_add] at this;exact this
   obtain⟨h0,h1,h2,h3,h4⟩:=uT l i x hx;exact⟨hc _ _ h0,hc _ _ h1,hc _ _ h2,hc _ _ h3,hc _ _ h4⟩
  ·intro j hj;unfold World.frozen?;rw[hblk];simp
theorem a4H:(prog.info? 134).map (fun i=>(i.zero,i.size,i.bytes))=some (some (.agg #[aa 0,.slice none 0 0,.string ⟨#[]⟩,.string ⟨#[]⟩,aa 0]),5,72):=by kernel_rfl
theorem JB (w:ag)(o:Option Addr)(cap:Nat)(l:List P5)(h:zO w o cap l)(hl:l.length<=1000):
  au 79 #[.slice o l.length cap] w fun e w'=>∃v,e=.returned v/\Own5 w' w.heap.size v l/\Below w.heap.size w w':=by
 have q22:∀(w:ag) (a:Option Addr) (n c n' c':Nat),(binOp .eql 63 (.slice a n c) (.slice none n' c')).run prog w=.ok (.bool a.isNone) w:=fun w a n c n' c'=>Lib.run_eql_slice_nil w _ _ a n c n' c' underlying63;obtain⟨i0,hi,hz0,hz1,hz2⟩:=info_parts a4H;cases o with
 |none=>
  have hc:=h.no rfl;have hz:l=[]:=iC.1 (by have:=h.le;omega);subst hz;go_enter func79,ntmps79;go_wp2_with fail;go_ret;exact⟨_,rfl,eH _ _ _ _,aG _ _⟩
 |some a=>
  have HN:Hid (∀j u,(cells5 l)[j]? =some u->(w.alloc (.cells #[] 134)).cell? (a.add j)=some u):=fun j u hj=>((bg w (.cells #[] 134)).cell (aF (Jz h.at_ j u hj))).trans (Jz h.at_ j u hj);go_enter func79,ntmps79;go_wp2_with(at_builtin;refine wpList_append_own _ rfl _ _ 63 rfl w.heap.size 134 i0 (.agg #[aa 0,.slice none 0 0,.string ⟨#[]⟩,.string ⟨#[]⟩,aa 0]) 5 72 underlying63 hi hz0 hz1 hz2 rfl (by decide) _ _ _ rfl (World.ownsRow_made w #[] 0 ai (aP _) (by simp)) a l.length cap (cells5 l) rfl (Bh l) HN.out (NL l) (by simp only[maxLen];omega) (by omega) (by simp) ?_;intro v7 w7 kN jS _);go_ret;refine⟨_,rfl,?_,((aG _ w).alloc ai _).grown jS (by simp) (fun k hk=>by have hk':some w.heap.size=some k:=hk;cases hk';exact Nat.le_refl _)⟩;simpa[Own5] using kN
theorem qR (f:Nat)(fn:Func)(hf:prog.funcs[f]? =some fn)(h1:(fn.name=="runtime.NumGoroutine")=false)(h2:fn.body.isNone=false)(av:Array ah)(w:ag):Sem.run prog (callFunc f av) w=.ok (.enter f av) w:=by
 unfold callFunc;simp only[Sem.run_bind,run_program,Result.andThen_ok,hf,h1,h2];rfl
end
section
open Go.RowKit
set_option maxRecDepth 20000
abbrev rfV (fn By:Nat):ah:=.func (.func fn) #[] #[ay By]
def a0G (base fn By:Nat)(w:ag)(l:List P5)(q:P5->Bool):Prop:=∀x∈l,∀V,Below base w V->au fn #[VV x,ay By] V fun e W=>e=.returned (.bool (q x))/\Below V.heap.size V W
theorem NM (aB aS aZ:Addr)(x:P5)(y:Int)(By:Nat)(w:ag)(hl:x.s.pts.length<=1000)(h:fH w x.o x.s.pts)(hE:E3 aB aS aZ w)(hy:w.cell? (ak By 0)=some (aa y)):
  au 80 #[VV x,ay By] w fun e W=>e=.returned (.bool (!aN x.s.pts y))/\Below w.heap.size w W:=by
 have b0:=bg w (.cells (xB x) 134);have RE:=yM aB aS aZ x y (w.alloc (.cells (xB x) 134)) hl (h.below b0 ai) (hE.below b0 ai);have hy1:=(b0.cell (aF hy)).trans hy;go_enter func80,ntmps80;go_wp2_with(go_at_call 81;refine RE.mono ?_;rintro e w1 ⟨rfl,b1⟩);go_ret;exact⟨rfl,aA b0 b1⟩
def acS (q:P5->Bool)(l:List P5)(e:Ending):Prop:=((∀x∈l,q x=false)/\e=.returned (aa (-1)))\/∃k x,l[k]? =some x/\(∀y∈l.take k,q y=false)/\q x=true/\e=.returned (aa (k:Nat))
theorem JC (base fn By:Nat)(hcf:∀(av:Array ah) (w:ag),Sem.run prog (callFunc fn av) w=.ok (.enter fn av) w)(q:P5->Bool)(l:List P5)(o:Option Addr)(cap:Nat)(w0 w:ag)(hl:l.length<=1000)(h:iH w o l)(hb0:Below base w0 w)(hbase:base<=w.heap.size)(hq:a0G base fn By w0 l q):
  au 132 #[.slice o l.length cap,rfV fn By] w fun e W=>acS q l e/\Below w.heap.size w W:=by
 go_enter func132,ntmps132;go_wp2
 go_loopw [8] (fun i wr=>∃k:Nat,k<=l.length/\i=aa k/\(∀x∈l.take k,q x=false)/\Below w.heap.size w wr) (fun i _=>l.length-(intOf i).toNat)
 case atStart=>exact⟨0,aP _,rfl,(fun a ha=>by simp at ha),aG _ _⟩
 case round=>
  obtain⟨k,hk,rfl,hrt,hb⟩:=hrel;by_cases hlt:k<l.length
  ·have hlt':(k:Int)<(l.length:Int):=by omega
   obtain⟨x,hx⟩:∃x,l[k]? =some x:=⟨_,dK hlt⟩;have hmem:x∈l:=fV hx;obtain⟨b,off,rfl,hC⟩:=h.below hb ai k x hx;have AQ:=hq x hmem wr (hb0.trans (hb.mono hbase));obtain⟨c0,c1,c2,c3,c4⟩:=hC;have HX:=aj hx;clear hx;cases Vw:q x with
   |false=>
    rw[Vw] at AQ;go_wp2_with(refine AQ.mono ?_;rintro e w1 ⟨rfl,b1⟩)
    go_roundw
    case rel=>exact⟨k+1,by omega,by go_num,fun y hy=>by rw[List.take_add_one,HX.out] at hy;rcases List.mem_append.1 hy with hy|hy;exact hrt y hy;simp at hy;subst hy;exact Vw,aA hb b1⟩
    case measure=>simp[intOf];omega
   |true=>
    rw[Vw] at AQ;go_wp2_with(refine AQ.mono ?_;rintro e w1 ⟨rfl,b1⟩);go_ret;exact⟨.inr ⟨k,x,HX.out,hrt,Vw,rfl⟩,aA hb b1⟩
  ·obtain rfl:k=l.length:=by omega
   go_wp2_with fail;go_ret;rw[List.take_length] at hrt;exact⟨.inl ⟨hrt,rfl⟩,hb⟩
theorem Ef (w:ag)(ty:TypeId)(b o n c:Nat)(hn:0<n)(hc:∀j,j<n*5->(w.cell? (ak b (o+j))).isSome=true)(hf:∀j,j<n*5->w.frozen? ⟨b,o+j,none⟩=false):
  ∃vs:List ah,vs.length=n*5/\(Builtin.clear_ #[63] ty #[.slice (some ⟨b,o,none⟩) n c]).run prog w=.ok (.tuple #[]) (w.setCells b o vs):=by
 have hv:∀w,(zeroValue 134).run prog w=.ok (.agg #[aa 0,.slice none 0 0,.string ⟨#[]⟩,.string ⟨#[]⟩,aa 0]) w:=fun w=>by kernel_rfl
 have hlen:(Builtin.zeroCells (Value.agg #[aa 0,.slice none 0 0,.string ⟨#[]⟩,.string ⟨#[]⟩,aa 0]).cells n).toList.length=n*5:=by
  simp[Builtin.zeroCells,Value.cells]
 refine⟨(Builtin.zeroCells (Value.agg #[aa 0,.slice none 0 0,.string ⟨#[]⟩,.string ⟨#[]⟩,aa 0]).cells n).toList,hlen,?_⟩;have hone:∀v∈(Builtin.zeroCells (Value.agg #[aa 0,.slice none 0 0,.string ⟨#[]⟩,.string ⟨#[]⟩,aa 0]).cells n).toList,v.oneCell'=true:=by
  intro v hv;simp only[Builtin.zeroCells,Value.cells,Array.toList_map,List.mem_map] at hv;obtain⟨i, -,rfl⟩:=hv;have hi:i % 5<5:=Nat.mod_lt _ (by decide);show(#[Value.int .i64 0,.slice none 0 0,.string ⟨#[]⟩,.string ⟨#[]⟩,aa 0][i % 5]!).oneCell'=true;generalize i % 5=j at hi
  match j,hi with
  |0,_=>rfl
  |1,_=>rfl
  |2,_=>rfl
  |3,_=>rfl
  |4,_=>rfl
 have hst:=run_storeCells_cells (P:=prog) b o (Builtin.zeroCells (Value.agg #[aa 0,.slice none 0 0,.string ⟨#[]⟩,.string ⟨#[]⟩,aa 0]).cells n).toList 0 w (by rw[hlen];simpa using hc) (by rw[hlen];simpa using hf) hone;simp only[Nat.add_zero] at hst;obtain⟨m,rfl⟩:∃m,n=m+1:=⟨n-1,by omega⟩;simp[Builtin.clear_,run_underlying underlying63,hv,hst]
theorem jr {B b:Nat}{a:ag}(hb:B<=b):∀(vs:List ah) (o:Nat) (w:ag),Below B a w->Below B a (w.setCells b o vs)
 |[],_,_,h=>h
 |_::vs,_,_,h=>jr hb vs _ _ (h.setCell hb _)
abbrev Wl (w:ag)(b o:Nat)(x:P5):ag:=((((w.setCell ⟨b,o,none⟩ (aa x.nd)).setCell ⟨b,o+1,none⟩ (.slice x.o x.s.pts.length x.cap)).setCell ⟨b,o+2,none⟩ (.string x.s.fill)).setCell ⟨b,o+3,none⟩ (.string x.s.rule)).setCell ⟨b,o+4,none⟩ (aa x.lv)
theorem Qk (w:ag)(b o:Nat)(x:P5):Wl w b o x=w.setCells b o [aa x.nd,.slice x.o x.s.pts.length x.cap,.string x.s.fill,.string x.s.rule,aa x.lv]:=rfl
theorem JA.set {w:ag}{b:Nat}{l:List P5}(h:JA w b l){i:Nat}(hi:i<l.length)(x:P5):JA (Wl w b (i*5) x) b (l.set i x):=by
 rw[Qk];have old:=h.c i l[i] (dK hi);have hin:=World.cell?_setCells_in b [aa x.nd,.slice x.o x.s.pts.length x.cap,.string x.s.fill,.string x.s.rule,aa x.lv] (i*5) w (fun j hj=>by
  have hj':j<5:=hj
  match j,hj' with
  |0,_=>rw[Nat.add_zero,old.c0];rfl
  |1,_=>rw[old.c1];rfl
  |2,_=>rw[old.c2];rfl
  |3,_=>rw[old.c3];rfl
  |4,_=>rw[old.c4];rfl)
 refine⟨fun k y hy=>?_,fun j hj=>?_⟩
 ·by_cases e:k=i
  ·subst e;rw[List.getElem?_set_self hi] at hy;cases hy;exact⟨hin 0 (by simp),hin 1 (by simp),hin 2 (by simp),hin 3 (by simp),hin 4 (by simp)⟩
  ·rw[List.getElem?_set_ne (fun h=>e h.symm)] at hy;obtain⟨c0,c1,c2,c3,c4⟩:=h.c k y hy;have far:∀j,j<5->(w.setCells b (i*5) [aa x.nd,.slice x.o x.s.pts.length x.cap,.string x.s.fill,.string x.s.rule,aa x.lv]).cell? (ak b (k*5+j))=w.cell? (ak b (k*5+j)):=fun j hj=>World.cell?_setCells_out b _ _ w ⟨b,k*5+j,none⟩ (fun _ _=>by
    show k*5+j<i*5\/i*5+5<=k*5+j;omega)
   exact⟨(far 0 (by decide)).trans c0,(far 1 (by decide)).trans c1,(far 2 (by decide)).trans c2,(far 3 (by decide)).trans c3,(far 4 (by decide)).trans c4⟩
 ·rw[World.frozen?_setCells];exact h.f j (by rw[List.length_set] at hj;exact hj)
theorem JA.setCells {w:ag}{b:Nat}{l:List P5}(h:JA w b l)(i:Nat)(vs:List ah):JA (w.setCells b (i*5) vs) b (l.take i):=⟨fun k y hy=>by
  rw[List.getElem?_take] at hy;split at hy
  ·rename_i hki;obtain⟨c0,c1,c2,c3,c4⟩:=h.c k y hy;have far:∀j,j<5->(w.setCells b (i*5) vs).cell? (ak b (k*5+j))=w.cell? (ak b (k*5+j)):=fun j hj=>World.cell?_setCells_out b _ _ w ⟨b,k*5+j,none⟩ (fun _ _=>.inl (by
    show k*5+j<i*5;omega))
   exact⟨(far 0 (by decide)).trans c0,(far 1 (by decide)).trans c1,(far 2 (by decide)).trans c2,(far 3 (by decide)).trans c3,(far 4 (by decide)).trans c4⟩
  ·exact absurd hy (by simp),fun j hj=>by
  rw[World.frozen?_setCells];exact h.f j (by rw[List.length_take] at hj;omega)⟩
structure Eh (q:P5->Bool)(l:List P5)(b base:Nat)(w0:ag)(i j:Nat)(l':List P5)(w:ag):Prop where
 len:l'.length=l.length
 lt:i<j
 le:j<=l.length
 kept:l'.take i=(l.take j).filter fun x=> !q x
 rest:l'.drop j=l.drop j
 row:JA w b l'
 bel:Below base w0 w
 sz:b<w.heap.size
theorem filter_none {q:P5->Bool}{l:List P5}(h:∀x∈l,q x=false):(l.filter fun x=> !q x)=l:=List.filter_eq_self.2 (fun x hx=>by rw[h x hx];rfl)
theorem Eh.skip {q:P5->Bool}{l:List P5}{b base:Nat}{w0:ag}{i j:Nat}{l':List P5}{w w':ag}{x:P5}(h:Eh q l b base w0 i j l' w)(hx:l[j]? =some x)(hq:q x=true)(hb:Below w.heap.size w w')(hbase:base<=w.heap.size):Eh q l b base w0 i (j+1) l' w':=by
 have hj:j<l.length:=(jc.1 hx).1;refine⟨h.len,by have:=h.lt;omega,hj,?_,?_,h.row.below hb h.sz,h.bel.trans (hb.mono hbase),bI h.sz hb.size⟩
 ·rw[h.kept,List.take_add_one,hx,List.filter_append];simp[hq]
 ·rw[<- List.drop_drop,h.rest,List.drop_drop]
theorem Eh.keep {q:P5->Bool}{l:List P5}{b base:Nat}{w0:ag}{i j:Nat}{l':List P5}{w w':ag}{x:P5}(h:Eh q l b base w0 i j l' w)(hx:l[j]? =some x)(hq:q x=false)(hb:Below w.heap.size w w')(hbase:base<=w.heap.size)(hbb:base<=b):Eh q l b base w0 (i+1) (j+1) (l'.set i x) (Wl w' b (i*5) x):=by
 have hj:j<l.length:=(jc.1 hx).1;have hi:i<l'.length:=by have:=h.lt;have:=h.le;rw[h.len];omega
 have hbl:=h.bel.trans (hb.mono hbase);refine⟨by rw[List.length_set,h.len],by have:=h.lt;omega,hj,?_,?_,(h.row.below hb h.sz).set hi x,?_,?_⟩
 ·rw[List.take_add_one,List.take_set_of_le ai,h.kept,List.getElem?_set_self hi,List.take_add_one,hx,List.filter_append];simp[hq]
 ·rw[List.drop_set_of_lt (by have:=h.lt;omega),<- List.drop_drop,h.rest,List.drop_drop]
 ·rw[Qk];exact jr hbb _ _ _ hbl
 ·have:(Wl w' b (i*5) x).heap.size=w'.heap.size:=by simp[Wl]
  rw[this];exact bI h.sz hb.size
theorem Eh.start {q:P5->Bool}{l:List P5}{b base:Nat}{w0 w:ag}{k:Nat}{x:P5}(hr:JA w b l)(hb:Below base w0 w)(hs:b<w.heap.size)(hx:l[k]? =some x)(hall:∀y∈l.take k,q y=false)(hq:q x=true):Eh q l b base w0 k (k+1) l w:=by
 have hk:k<l.length:=(jc.1 hx).1;refine⟨rfl,by omega,hk,?_,rfl,hr,hb,hs⟩;rw[List.take_add_one,hx,List.filter_append,filter_none hall];simp[hq]
theorem Fj (base fn By:Nat)(hcf:∀(av:Array ah) (w:ag),Sem.run prog (callFunc fn av) w=.ok (.enter fn av) w)(q:P5->Bool)(l:List P5)(b cap:Nat)(w0 w:ag)(hl:l.length<=1000)(hr:JA w b l)(hbb:base<=b)(hbw:b<w.heap.size)(hcap:l.length<=cap)(hb0:Below base w0 w)(hq:a0G base fn By w0 l q):
  au 78 #[.slice (some ⟨b,0,none⟩) l.length cap,rfV fn By] w fun e W=>e=.returned (.slice (some ⟨b,0,none⟩) (l.filter fun x=> !q x).length cap)/\JA W b (l.filter fun x=> !q x)/\Below base w0 W/\b<W.heap.size:=by
 have hbase:base<=w.heap.size:=by omega
 have IX:=JC base fn By hcf q l (some ⟨b,0,none⟩) cap w0 w hl hr.at_ hb0 hbase hq;go_enter func78,ntmps78;go_upto_region 2 with(go_at_call 132;refine IX.mono ?_;rintro e w1 ⟨hix,b1⟩;obtain⟨n,rfl,hn⟩:∃n:Int,e=.returned (aa n)/\((∀x∈l,q x=false)/\n= -1\/∃(k:Nat) (x:P5),l[k]? =some x/\(∀y∈l.take k,q y=false)/\q x=true/\n=k):=(by rcases hix with⟨k1,k2⟩|⟨k,x,k1,k2,k3,k4⟩;exact⟨_,k2,.inl ⟨k1,rfl⟩⟩;exact⟨_,k4,.inr ⟨k,x,k1,k2,k3,rfl⟩⟩));clear hix IX;have hr1:=hr.below b1 hbw;have hb1:=hb0.trans (b1.mono hbase);have a4I:=bI hbw b1.size;rcases hn with⟨hall,rfl⟩|⟨k,x,hx,hall,Vw,rfl⟩
 ·go_wp2_with fail;go_ret;rw[filter_none hall];exact⟨rfl,hr1,hb1,a4I⟩
 ·have D0:=Eh.start hr1 hb1 a4I hx hall Vw;have hk:k<l.length:=(jc.1 hx).1;have hne:((k:Int)== -1)=false:=beq_eq_false_iff_ne.2 (by omega);clear hx hall Vw hr1 hb1 a4I hr;go_wp2_with fail
  go_loopw [5,6] (fun u v wr=>∃(i j:Nat) (l':List P5),u=aa i/\v=aa j/\Eh q l b base w0 i j l' wr) (fun _ v _=>l.length-(intOf v).toNat)
  case atStart=>exact⟨k,k+1,l,rfl,by go_num,D0⟩
  case round=>
   obtain⟨i,j,l',rfl,rfl,hD⟩:=hrel;have hij:=hD.lt;have hjl:=hD.le;have hwb:base<=wr.heap.size:=by have:=hD.sz;omega
   by_cases hlt:j<l.length
   ·have hlt':(j:Int)<(l.length:Int):=by omega
    have a4J:(i:Int)<(l.length:Int):=by omega
    obtain⟨x,hx⟩:∃x,l[j]? =some x:=⟨_,dK hlt⟩;have hmem:x∈l:=fV hx;have hx':l'[j]? =some x:=by
     have h1:(l'.drop j)[0]? =some x:=by rw[hD.rest,List.getElem?_drop];exact hx
     rw[List.getElem?_drop] at h1;exact h1
    have hC:=hD.row.c j x hx';have b2:=bg wr (.cells (xB x) 134);have AQ:=hq x hmem (wr.alloc (.cells (xB x) 134)) (hD.bel.trans (b2.mono hwb));have C0:=Qf.new wr x 134;obtain⟨c0,c1,c2,c3,c4⟩:=hC;have HX:=aj hx;clear hx hx';cases Vw:q x with
    |true=>
     rw[Vw] at AQ;go_wp2_with(refine AQ.mono ?_;rintro e w2 ⟨rfl,b3⟩)
     go_roundw
     case rel=>exact⟨i,j+1,l',rfl,by go_num,hD.skip HX.out Vw (aA b2 b3) hwb⟩
     case measure=>simp[intOf];omega
    |false=>
     rw[Vw] at AQ;have hil:i<l'.length:=by rw[hD.len];omega
     have oi:=hD.row.c i l'[i] (dK hil);generalize l'[i]=old at oi;have fi:∀m,m<5->wr.frozen? ⟨b,i*5+m,none⟩=false:=fun m hm=>hD.row.f _ (by rw[hD.len];omega);go_upto_region 9 with(refine AQ.mono ?_;rintro e w2 ⟨rfl,b3⟩);have tH:=aA b2 b3;obtain⟨d0,d1,d2,d3,d4⟩:=C0.below b3 ai;obtain⟨o0,o1,o2,o3,o4⟩:=oi.below tH ai;have f0:=(tH.frozen (p:=⟨b,i*5,none⟩) hD.sz).trans (fi 0 (by decide));have f1:=(tH.frozen (p:=⟨b,i*5+1,none⟩) hD.sz).trans (fi 1 (by decide));have f2:=(tH.frozen (p:=⟨b,i*5+2,none⟩) hD.sz).trans (fi 2 (by decide));have f3:=(tH.frozen (p:=⟨b,i*5+3,none⟩) hD.sz).trans (fi 3 (by decide));have f4:=(tH.frozen (p:=⟨b,i*5+4,none⟩) hD.sz).trans (fi 4 (by decide));have K:=hD.keep HX.out Vw tH hwb hbb;clear hil c0 c1 c2 c3 c4 fi;go_wp2_with fail
     go_roundw
     case rel=>exact⟨i+1,j+1,_,by go_num,by go_num,K⟩
     case measure=>simp[intOf];omega
   ·obtain rfl:j=l.length:=by omega
    have hni:0<l.length-i:=by omega
    have hlen:=hD.len;obtain⟨vs,hvl,hcl⟩:∃vs:List ah,vs.length=(l.length-i)*5/\∀ty,(Builtin.clear_ #[63] ty #[.slice (some ⟨b,i*5,none⟩) (l.length-i) (cap-i)]).run prog wr=.ok (.tuple #[]) (wr.setCells b (i*5) vs):=by
     have hex:∀ty,∃vs:List ah,vs.length=(l.length-i)*5/\(Builtin.clear_ #[63] ty #[.slice (some ⟨b,i*5,none⟩) (l.length-i) (cap-i)]).run prog wr=.ok (.tuple #[]) (wr.setCells b (i*5) vs):=fun ty=>Ef wr ty b (i*5) (l.length-i) (cap-i) hni (fun m hm=>by
      obtain⟨r,hr⟩:∃r,i*5+m=r:=⟨_,rfl⟩;rw[hr];have hrl:r/5<l'.length:=by omega
      obtain⟨c0,c1,c2,c3,c4⟩:=hD.row.c (r/5) l'[r/5] (dK hrl);have hm5:r % 5<5:=Nat.mod_lt _ (by decide);have er:r=r/5*5+r % 5:=by omega
      rw[er];generalize r % 5=z at hm5
      match z,hm5 with
      |0,_=>rw[Nat.add_zero,c0];rfl
      |1,_=>rw[c1];rfl
      |2,_=>rw[c2];rfl
      |3,_=>rw[c3];rfl
      |4,_=>rw[c4];rfl) (fun m hm=>hD.row.f _ (by omega))
     obtain⟨vs,h1,h2⟩:=hex 0;exact⟨vs,h1,fun ty=>h2⟩
    have hic:(i:Int)<(cap:Int):=by omega
    have hil:(i:Int)<(l.length:Int):=by omega
    have K:JA (wr.setCells b (i*5) vs) b (l.filter fun x=> !q x):=by
     have h1:=hD.row.setCells i vs;rw[hD.kept,List.take_length] at h1;exact h1
    have hfl:(l.filter fun x=> !q x).length=i:=by
     have h1:=hD.kept;rw[List.take_length] at h1;rw[<- h1,List.length_take];omega
    have HF:=aj hfl;have hB2:=jr hbb vs (i*5) wr hD.bel;have hS2:b<(wr.setCells b (i*5) vs).heap.size:=by
     have:=(jr ai vs (i*5) wr (aG b wr)).size;have:=hD.sz;omega
    clear hfl hvl hlen;go_wp2_with fail;go_ret;exact⟨by rw[HF.out];rfl,K,hB2,hS2⟩
theorem a0H (aB aS aZ:Addr)(y:Int)(l:List P5)(w:ag)(By:Nat)(hl:∀x∈l,x.s.pts.length<=1000)(hP:j5 w l)(hE:E3 aB aS aZ w)(hy:w.cell? (ak By 0)=some (aa y)):a0G w.heap.size 80 By w l (fun x=> !aN x.s.pts y):=fun x hx V hV=>
 NM aB aS aZ x y By V (hl x hx) ((hP x hx).below hV ai) (hE.below hV ai) ((hV.cell (aF hy)).trans hy)
theorem SN (l:List P5)(y:Int):sP (l.filter fun x=> !!aN x.s.pts y)=(sP l).filter fun s=>aN s.pts y:=by
 induction l with
 |nil=>rfl
 |cons a l ih=>
  simp only[sP,List.filter_cons,List.map_cons,Bool.not_not] at ih⊢;cases h:aN a.s.pts y with
  |true=>simp[ih]
  |false=>simp[ih]
theorem Fp (fn By:Nat)(hcf:∀(av:Array ah) (w:ag),Sem.run prog (callFunc fn av) w=.ok (.enter fn av) w)(w:ag):au 78 #[.slice none 0 0,rfV fn By] w fun e W=>e=.returned (.slice none 0 0)/\Below w.heap.size w W:=by
 have IX:=JC w.heap.size fn By hcf (fun _=>false) [] none 0 w w (by simp) (fun i x hx=>by simp at hx) (aG _ _) ai (fun x hx=>by cases hx);go_enter func78,ntmps78;go_upto_region 2 with(go_at_call 132;refine IX.mono ?_;rintro e w1 ⟨hix,b1⟩;obtain rfl:e=.returned (aa (-1)):=(by rcases hix with⟨-,k2⟩|⟨k,x,k1, -⟩;exact k2;simp at k1));go_wp2_with fail;go_ret;exact⟨rfl,b1⟩
def tJ (f:Nat->aC)(n k:Nat):Array ah:=((List.range n).map fun x=>if x<k then Value.string (f x) else .string ⟨#[]⟩).toArray
theorem wu (f:Nat->aC)(n k i:Nat)(h:i<n):(tJ f n k)[i]? =some (if i<k then Value.string (f i) else .string ⟨#[]⟩):=by
 unfold tJ;rw[List.getElem?_toArray,List.getElem?_map,List.getElem?_range h];rfl
theorem lI (f:Nat->aC)(n k:Nat):(tJ f n k).size=n:=by simp[tJ]
theorem Wm (f:Nat->aC)(n k:Nat)(h:k<n):(tJ f n k).setIfInBounds k (.string (f k))=tJ f n (k+1):=by
 apply Array.ext_getElem?;intro i;by_cases hi:i<n
 ·rw[wu f n (k+1) i hi];by_cases e:k=i
  ·subst e;rw[Array.getElem?_setIfInBounds_self_of_lt (by rw[lI];exact h),if_pos (by omega)]
  ·rw[Array.getElem?_setIfInBounds_ne e,wu f n k i hi];by_cases h1:i<k
   ·rw[if_pos h1,if_pos (by omega)]
   ·rw[if_neg h1,if_neg (by omega)]
 ·rw[Array.getElem?_eq_none (by rw[Array.size_setIfInBounds,lI];omega),Array.getElem?_eq_none (by rw[lI];omega)]
theorem a8P (f:Nat->aC)(n:Nat):madeCells (Value.string ⟨#[]⟩).cells n=tJ f n 0:=by
 apply Array.ext_getElem?;intro i;by_cases hi:i<n
 ·rw[wu f n 0 i hi,if_neg (by omega)];simp[madeCells,Value.cells,hi,Nat.mod_one]
 ·rw[Array.getElem?_eq_none (by simp[madeCells];omega),Array.getElem?_eq_none (by rw[lI];omega)]
theorem GI:(prog.info? 9).map (fun i=>(i.zero,i.size,i.bytes))=some (some (.string ⟨#[]⟩),1,16):=by kernel_rfl
theorem SQ (f:Nat->aC)(n:Nat)(w:ag)(hn:n<=100):(Instr.makeSlice 45 (aa (n:Int)) (aa (n:Int))).run prog w=.ok (.slice (some ⟨w.heap.size,0,none⟩) n n) (w.alloc (.cells (tJ f n 0) 9)):=by
 obtain⟨i0,hi,hz0,hz1,hz2⟩:=info_parts GI;have:=run_makeSlice (P:=prog) (w:=w) 45 9 i0 (.string ⟨#[]⟩) underlying45 hi hz0 .i64 .i64 n n (by omega) (Int.le_refl _) (by rw[hz1];omega) (by rw[hz2];omega) (by omega);rw[this,hz1,Int.toNat_natCast,Nat.mul_one,a8P f n]
theorem SX (f:Nat->aC)(n:Nat):(tJ f n n).toList=((List.range n).map f).map .string:=by
 unfold tJ;rw[List.map_map];apply List.map_congr_left;intro x hx;rw[if_pos (List.mem_range.1 hx)];rfl
theorem Fq (aB aS aZ aV:Addr)(l:List P5)(o:Option Addr)(cap n:Nat)(y:Int)(w:ag)(hn:n<=100)(hy1:0<=y)(hy2:y<=100)(hl:l.length<=1000)(h:zO w o cap l)(hP:j5 w l)(hk:∀x∈l,iw x.s)(hE:EP aB aS aZ aV w):
  au 47 #[.slice o l.length cap,aa n,aa y] w fun e W=>∃v,e=.returned v/\W.ownsRow w.heap.size 9 1 v n ((nP aN (sP l) n y).map .string)/\Below w.heap.size w W:=by
 have hrow:nP aN (sP l) n y=(List.range n).map fun(x:Nat)=>iD (sP (l.filter fun x=> !!aN x.s.pts y)) (jX (x:Int) y):=by
  rw[SN];rfl
 rw[hrow];clear hrow;obtain⟨lr,hlr⟩:∃lr,(l.filter fun x=> !!aN x.s.pts y)=lr:=⟨_,rfl⟩;rw[hlr];have JD:=aj hlr;clear hlr;have b0:=bg w (.cells #[aa y] 3);have hcy:=(iT w (aa y) 3).1;go_enter func47,ntmps47;go_upto_region 1 with fail;obtain⟨U,hU⟩:∃U,w.alloc (.cells #[aa y] 3)=U:=⟨_,rfl⟩;rw[hU] at b0 hcy⊢;clear hU;have hPU:=hP.below b0 ai;have Nc:=hE.below b0 ai;have CL:=JB U o cap l (h.below b0) hl
 go_cut [7] from 10 to 14 (fun v wx=>∃oo cc,v=.slice oo lr.length cc/\iH wx oo lr/\Below U.heap.size U wx)
 case first=>
  go_wp2_with(go_at_call 79;refine CL.mono ?_;rintro e w1 ⟨v1,rfl,ow1,b1⟩);have hP1:=hPU.below b1 ai;have hpl:∀x∈l,x.s.pts.length<=1000:=fun x hx=>by have:=(hk x hx).1.1;omega
  have AR:=a0H aB aS aZ y l U w.heap.size hpl hPU Nc.e3 hcy;rcases ow1.rw with⟨rfl,rfl⟩|⟨b,cc,rfl,hb1,hb2,hb3,hrw⟩
  ·have DN:=Fp 80 w.heap.size (qR _ _ func80 (by kernel_rfl) (by kernel_rfl)) w1;go_wp2_with(go_at_call 78;refine DN.mono ?_;rintro e w2 ⟨rfl,b2⟩)
   go_meet
   exact⟨none,0,by rw[<- JD.out];rfl,fun i x hx=>by rw[<- JD.out] at hx;simp at hx,aA b1 b2⟩
  ·have DF:=Fj U.heap.size 80 w.heap.size (qR _ _ func80 (by kernel_rfl) (by kernel_rfl)) (fun x=> !aN x.s.pts y) l b cc U w1 hl hrw hb1 hb2 hb3 b1 AR;go_wp2_with(go_at_call 78;refine DF.mono ?_;rintro e w2 ⟨rfl,hrw2,b2, -⟩)
   go_meet
   exact⟨some ⟨b,0,none⟩,cc,by rw[<- JD.out];simp,by rw[<- JD.out];exact hrw2.at_,b2⟩
 case rest=>
  obtain⟨oo,cc,rfl,hAt,bX⟩:=hcut;have hPX:j5 wc lr:=fun x hx=>(hPU.below bX ai) x (by rw[<- JD.out] at hx;exact(List.mem_filter.1 hx).1);have hkX:∀x∈lr,iw x.s:=fun x hx=>hk x (by rw[<- JD.out] at hx;exact(List.mem_filter.1 hx).1);have hlX:lr.length<=1000:=by rw[<- JD.out];exact aJ (List.length_filter_le _ _) hl
  have hEX:=Nc.below bX ai;have a0I:=(bX.cell (aF hcy)).trans hcy;clear JD CL;have Wn:=aA b0 bX;have MK:=SQ (fun x=>iD (sP lr) (jX (x:Int) y)) n wc hn;go_upto_region 3 with fail;have bM:=bg wc (.cells (tJ (fun x=>iD (sP lr) (jX (x:Int) y)) n 0) 9);have rM:=dW wc (.cells (tJ (fun x=>iD (sP lr) (jX (x:Int) y)) n 0) 9);obtain⟨V,hV⟩:∃V,wc.alloc (.cells (tJ (fun x=>iD (sP lr) (jX (x:Int) y)) n 0) 9)=V:=⟨_,rfl⟩;obtain⟨R,hR⟩:∃R,wc.heap.size=R:=⟨_,rfl⟩;have hRw:w.heap.size<=R:=by rw[<- hR];exact Wn.size
  have acT:=(bM.cell (aF a0I)).trans a0I;rw[hV] at bM rM acT⊢;rw[hR] at rM⊢;have HR:=aj hR;clear hV MK hR;go_wp2_with fail
  go_loopw [18] (fun i wr=>∃k:Nat,k<=n/\i=aa k/\wr.heap[R]? =some (.cells (tJ (fun x=>iD (sP lr) (jX (x:Int) y)) n k) 9)/\Below R wc wr) (fun i _=>n-(intOf i).toNat)
  case atStart=>exact⟨0,aP _,rfl,rM,by rw[<- HR.out];exact bM⟩
  case round=>
   obtain⟨k,hk',rfl,hrow,hb⟩:=hrel;by_cases hlt:k<n
   ·have hlt':(k:Int)<(n:Int):=by omega
    have hbW:Below wc.heap.size wc wr:=by rw[HR.out];exact hb
    have hRs:R<wr.heap.size:=(cZ.1 hrow).1;obtain⟨ec,ip⟩:=We (x:=(k:Int)) (y:=y) (by omega) (by omega) hy1 hy2;have CE:=AZ (k:Int) y wr (by omega) (by omega) (by omega) (by omega);have bC:=Fe (k:Int) y wr;have ajs:=(hbW.cell (aF a0I)).trans a0I;obtain⟨Z,hZ⟩:∃Z,((wr.alloc (a4B (k:Int) y)).alloc (AV (k:Int))).alloc (AV y)=Z:=⟨_,rfl⟩;rw[hZ] at CE bC;have hbZ:=aA hbW bC;have SA:=Jy aB aS aZ aV lr oo cc (jX (k:Int) y) Z hlX (hAt.below hbZ ai) (hPX.below hbZ ai) hkX ip ec (hEX.below hbZ ai);clear hZ;have HC:Hid (tJ (fun x=>iD (sP lr) (jX (x:Int) y)) n (k+1)=(tJ (fun x=>iD (sP lr) (jX (x:Int) y)) n k).setIfInBounds k (.string (iD (sP lr) (jX (k:Int) y)))):=(Wm (fun x=>iD (sP lr) (jX (x:Int) y)) n k hlt).symm;have c0:wr.cell? (ak R k)=some (.string ⟨#[]⟩):=by
     simp only[World.cell?,hrow];rw[wu _ n k k hlt,if_neg (Nat.lt_irrefl k)];rfl
    have f0:wr.frozen? ⟨R,k,none⟩=false:=by
     unfold World.frozen?;rw[hrow];simp
    generalize iD (sP lr) (jX (k:Int) y)=sh at SA HC;go_wp2_with(first|(go_at_call 82;refine SA.mono ?_;rintro e w2 ⟨rfl,b2⟩;have bz:=aA bC b2;have c2:=(bz.cell (aF c0)).trans c0;have f2:=(bz.frozen (aF c0)).trans f0)|(go_at_call 83;refine CE.mono ?_;rintro e w1 ⟨rfl,rfl⟩))
    go_roundw
    case rel=>
     refine⟨k+1,by omega,by go_num,?_,?_⟩
     ·rw[HC.out];have:=heap_setCell_same w2 R k _ _ (.string sh) (((bz.block R hRs)).trans hrow);exact this
     ·exact(hb.trans (bz.mono (by omega))).setCell ai _
    case measure=>simp[intOf];omega
   ·obtain rfl:k=n:=by omega
    go_wp2_with fail;go_ret;refine⟨_,rfl,⟨by simp,.inr ⟨R,_,_,rfl,hRw,hrow,Nat.le_refl _,by simp only[maxLen];omega,by rw[lI,Nat.mul_one],?_⟩⟩,Wn.trans (hb.mono hRw)⟩;rw[Nat.mul_one,List.take_of_length_le (by rw[Array.length_toList,lI];exact Nat.le_refl _)];exact SX _ _
def jT (l:List P5):Prop:=∀x∈l,iw x.s
theorem xH {l:List P5}(h:∃x∈l,¬iw x.s):¬jT l:=fun hk=>by
 obtain⟨x,hx,hn⟩:=h;exact hn (hk x hx)
theorem a4L (aB aS aZ aV:Addr)(l:List P5)(o:Option Addr)(cap n:Nat)(y:Int)(w:ag)(hn1:1<=n)(hn:n<=40)(hy1:0<=y)(hy2:y<40)(hl:l.length<=1000)(h:zO w o cap l)(hP:j5 w l)(hE:EP aB aS aZ aV w):
  au 163 #[.slice o l.length cap,aa n,aa y] w fun e W=>((jT l/\∃v,e=.returned (.tuple #[v,.nilIface])/\W.ownsRow w.heap.size 9 1 v n ((nP aN (sP l) n y).map .string))\/(¬jT l/\∃a,e=.returned (.tuple #[.slice none 0 0,.iface 90 (.pointer (some a))])))/\Below w.heap.size w W:=by
 have IS:=uR (n:Int) w;rw[show decide (1<=(n:Int)/\(n:Int)<=40)=true from by simp;omega] at IS;have CK:=Fg aB aS aZ aV l o cap w hl h.at_ hP hE;have RO:=fun V (hv:Below w.heap.size w V) (hk:jT l)=>Fq aB aS aZ aV l o cap n y V (by omega) hy1 (by omega) hl (h.below hv) (hP.below hv ai) hk (hE.below hv ai);go_enter func163,ntmps163;go_upto_region 4 with(first|(go_at_call 45;refine IS.mono ?_;rintro e w1 ⟨rfl,rfl⟩)|(go_at_call 46;refine CK.mono ?_;rintro e w1 ⟨hc,b1⟩;obtain⟨v,rfl,hv⟩:∃v,e=.returned v/\((jT l/\v=.nilIface)\/(¬jT l/\∃a,v=.iface 90 (.pointer (some a)))):=(by rcases hc with⟨k1,k2⟩|⟨k1,a,k2⟩;exact⟨_,k2,.inl ⟨k1,rfl⟩⟩;exact⟨_,k2,.inr ⟨xH k1,a,rfl⟩⟩)));rcases hv with⟨hok,rfl⟩|⟨hno,a,rfl⟩
 ·have RO:=RO w1 b1 hok;go_wp2_with(go_at_call 47;refine RO.mono ?_;rintro e w2 ⟨v,rfl,ow,b2⟩);refine bodyPost_ret (results_tmp2 rfl _ _ _) rfl ?_;exact⟨.inl ⟨hok,v,rfl,by
   refine⟨ow.1,?_⟩;rcases ow.2 with h0|⟨g,c,cur,h1,h2,h3⟩
   ·exact .inl h0
   ·exact .inr ⟨g,c,cur,h1,aJ b1.size h2,h3⟩⟩,aA b1 b2⟩
 ·go_wp2_with fail;refine bodyPost_ret (results_tmp2 rfl _ _ _) rfl ?_;exact⟨.inr ⟨hno,a,rfl⟩,b1⟩
theorem GJ {w:ag}{b:Nat}{x y z:ah}{t:TypeId}(h:w.heap[b]? =some (.cells #[x,y,z] t))(u0 u1 u2:ah):(((w.setCell ⟨b,0,none⟩ u0).setCell ⟨b,1,none⟩ u1).setCell ⟨b,2,none⟩ u2).heap[b]? =some (.cells #[u0,u1,u2] t):=by
 have h1:=heap_setCell_same w b 0 _ _ u0 h;have h2:=heap_setCell_same _ b 1 _ _ u1 h1;have h3:=heap_setCell_same _ b 2 _ _ u2 h2;rw[h3];rfl
structure kU (w:ag)(b:Nat)(x y z:ah):Prop where
 c0:w.cell? (ak b 0)=some x
 c1:w.cell? (ak b 1)=some y
 c2:w.cell? (ak b 2)=some z
 f0:w.frozen? ⟨b,0,none⟩=false
 f1:w.frozen? ⟨b,1,none⟩=false
 f2:w.frozen? ⟨b,2,none⟩=false
theorem kU.of {w:ag}{b:Nat}{x y z:ah}{t:TypeId}(h:w.heap[b]? =some (.cells #[x,y,z] t)):kU w b x y z:=by
 have fz:∀j,w.frozen? ⟨b,j,none⟩=false:=fun j=>by unfold World.frozen?;rw[h];simp
 exact⟨by simp[World.cell?,h],by simp[World.cell?,h],by simp[World.cell?,h],fz 0,fz 1,fz 2⟩
theorem eZ {w:ag}{base base':Nat}{e:TypeId}{size:Nat}{v:ah}{n:Nat}{xs:List ah}(h:w.ownsRow base e size v n xs)(hb:base'<=base):w.ownsRow base' e size v n xs:=by
 refine⟨h.1,?_⟩;rcases h.2 with h0|⟨g,cap,cur,h1,h2,h3⟩
 ·exact .inl h0
 ·exact .inr ⟨g,cap,cur,h1,aJ hb h2,h3⟩
theorem own_below {w w':ag}{base:Nat}{e:TypeId}{size:Nat}{v:ah}{n:Nat}{xs:List ah}(h:w.ownsRow base e size v n xs)(hb:Below w.heap.size w w'):w'.ownsRow base e size v n xs:=by
 refine⟨h.1,?_⟩;rcases h.2 with h0|⟨g,cap,cur,h1,h2,h3,h4⟩
 ·exact .inl h0
 ·exact .inr ⟨g,cap,cur,h1,h2,(hb.block g (cZ.1 h3).1).trans h3,h4⟩
theorem gX {w:ag}{base:Nat}{e:TypeId}{size:Nat}{v:ah}{n:Nat}{xs:List ah}(h:w.ownsRow base e size v n xs){p:Addr}(hp:p.block<base)(u:ah):(w.setCell p u).ownsRow base e size v n xs:=by
 refine⟨h.1,?_⟩;rcases h.2 with h0|⟨g,cap,cur,h1,h2,h3,h4⟩
 ·exact .inl h0
 ·exact .inr ⟨g,cap,cur,h1,h2,(aY w p u g (by omega)).trans h3,h4⟩
theorem Bi {w:ag}{base g:Nat}{e:TypeId}{n n' cap:Nat}{xs:List ah}(h:w.ownsRow base e 1 (.slice (some ⟨g,0,none⟩) n' cap) n xs):∀j u,xs[j]? =some u->w.cell? ((⟨g,0,none⟩:Addr).add j)=some u:=fun j u hj=>World.ownsRow.cells h (g:=g) rfl j u hj
theorem GK (l:List aC):∀u∈l.map Value.string,u.oneCell'=true:=fun u hu=>by
 obtain⟨s, -,rfl⟩:=List.mem_map.1 hu;rfl
theorem Wo (aB aS aZ aV:Addr)(l:List P5)(o:Option Addr)(cap n h:Nat)(w:ag)(hn1:1<=n)(hn:n<=40)(ug:1<=h)(hh:h<=40)(hl:l.length<=1000)(hR:zO w o cap l)(hP:j5 w l)(hE:EP aB aS aZ aV w):
  au 21 #[.slice o l.length cap,aa n,aa h] w fun e W=>((jT l/\∃v,e=.returned (.tuple #[.agg #[aa n,aa h,v],.nilIface])/\W.ownsRow w.heap.size 9 1 v (n*h) ((lW aN (sP l) n h).map .string))\/(¬jT l/\∃a,e=.returned (.tuple #[.agg #[aa 0,aa 0,.slice none 0 0],.iface 90 (.pointer (some a))])))/\Below w.heap.size w W:=by
 have b0:=bg w (.cells #[aa 0,aa 0,.slice none 0 0] 47);have r0:=dW w (.cells #[aa 0,aa 0,.slice none 0 0] 47);have IS:=fun V=>uR (n:Int) V;rw[show decide (1<=(n:Int)/\(n:Int)<=40)=true from by simp;omega] at IS;have IH:=fun V=>uR (h:Int) V;rw[show decide (1<=(h:Int)/\(h:Int)<=40)=true from by simp;omega] at IH;go_enter func21,ntmps21;go_upto_region 1 with fail;obtain⟨U,hU⟩:∃U,w.alloc (.cells #[aa 0,aa 0,.slice none 0 0] 47)=U:=⟨_,rfl⟩;rw[hU] at b0 r0⊢;clear hU;have CK:=Fg aB aS aZ aV l o cap U hl (hR.below b0).at_ (hP.below b0 ai) (hE.below b0 ai);go_upto_region 4 with(first|(go_at_call 46;refine CK.mono ?_;rintro e w1 ⟨hc,b1⟩;obtain⟨v,rfl,hv⟩:∃v,e=.returned v/\((jT l/\v=.nilIface)\/(¬jT l/\∃a,v=.iface 90 (.pointer (some a)))):=(by rcases hc with⟨k1,k2⟩|⟨k1,a,k2⟩;exact⟨_,k2,.inl ⟨k1,rfl⟩⟩;exact⟨_,k2,.inr ⟨xH k1,a,rfl⟩⟩))|(go_at_call_of 45 (h:Int);refine(IH _).mono ?_;rintro e w1 ⟨rfl,hw⟩;rw[hw];clear hw)|(go_at_call_of 45 (n:Int);refine(IS _).mono ?_;rintro e w1 ⟨rfl,hw⟩;rw[hw];clear hw));clear CK IS IH;have uP:=aA b0 b1;have r1:=(b1.block _ (cZ.1 r0).1).trans r0;have q0:w1.cell? ⟨w.heap.size,0,none⟩=some (aa 0):=by simp[World.cell?,r1]
 have q1:w1.cell? ⟨w.heap.size,1,none⟩=some (aa 0):=by simp[World.cell?,r1]
 have q2:w1.cell? ⟨w.heap.size,2,none⟩=some (.slice none 0 0):=by simp[World.cell?,r1]
 have z:∀j,w1.frozen? ⟨w.heap.size,j,none⟩=false:=fun j=>by unfold World.frozen?;rw[r1];simp
 have z0:=z 0;have z1:=z 1;have z2:=z 2;rcases hv with⟨hok,rfl⟩|⟨hno,a,rfl⟩
 ·go_upto_region 7 with fail;have b2:=bg w1 (.cells #[aa n,aa h,.slice none 0 0] 47);have r2:=dW w1 (.cells #[aa n,aa h,.slice none 0 0] 47);have Wp:(w1.alloc (.cells #[aa n,aa h,.slice none 0 0] 47)).heap.size=w1.heap.size+1:=by simp
  obtain⟨V,hV⟩:∃V,w1.alloc (.cells #[aa n,aa h,.slice none 0 0] 47)=V:=⟨_,rfl⟩;obtain⟨B,hB⟩:∃B,w1.heap.size=B:=⟨_,rfl⟩;have hwB:w.heap.size<B:=by rw[<- hB];exact(cZ.1 r1).1
  have bwV:=aA uP b2;rw[hV] at r2 Wp bwV⊢;have bB:Below B w1 V:=by rw[<- hB,<- hV];exact b2
  rw[hB] at r2 Wp⊢;have HB:=aj hB;clear hV hB b2 q0 q1 q2 z z0 z1 z2;obtain⟨i0,hi,hz0,hz1,hz2⟩:=info_parts GI;go_wp2_with fail
  go_loopw [31] (fun i wr=>∃(k:Nat) (v:ah),k<=h/\i=aa k/\wr.heap[B]? =some (.cells #[aa n,aa h,v] 47)/\wr.ownsRow (B+1) 9 1 v (n*k) ((lW aN (sP l) n k).map .string)/\Below B w1 wr) (fun i _=>h-(intOf i).toNat)
  case atStart=>exact⟨0,_,aP _,rfl,r2,eH _ _ _ _,bB⟩
  case round=>
   obtain⟨k,v,hk,rfl,hblk,hown,hb⟩:=hrel;have hb1:Below w1.heap.size w1 wr:=by rw[HB.out];exact hb
   have bwr:=aA uP hb1;have hBs:B<wr.heap.size:=(cZ.1 hblk).1;obtain⟨c0,c1,c2,f0,f1,f2⟩:=kU.of hblk;by_cases hlt:k<h
   ·have hlt':(k:Int)<(h:Int):=by omega
    have RO:=fun V (hv:Below w.heap.size w V)=>Fq aB aS aZ aV l o cap n (k:Int) V (by omega) (by omega) (by omega) hl (hR.below hv) (hP.below hv ai) hok (hE.below hv ai);have hnk:n*k<=40*40:=Nat.mul_le_mul hn (by omega);go_upto_region 10 with fail;have c2d:wr.drew.cell? (ak B 2)=some v:=c2;have hBv:∀r,v.ownBlock=some r->B<r:=fun r e=>by have:=(hown.lt r e).1;omega
    have RO2:∀V,Below wr.heap.size wr V->au 47 #[.slice o l.length cap,aa n,aa (k:Int)] V fun e w4=>∃g1 fo,e=.returned (.slice (some ⟨g1,0,none⟩) n fo)/\w4.ownsRow (B+1) 9 1 v (n*k) ((lW aN (sP l) n k).map .string)/\w4.ownsRow wr.heap.size 9 1 (.slice (some ⟨g1,0,none⟩) n fo) n ((nP aN (sP l) n (k:Int)).map .string)/\Below wr.heap.size wr w4/\w4.cell? (ak B 2)=some v/\B+1<=w4.heap.size:=fun V hV=>(RO V (aA bwr hV)).mono (by
     rintro e w4 ⟨vr,rfl,owR,b4⟩;obtain⟨g1,fo,rfl, -, -⟩:=owR.form (by omega);have b5:=aA hV b4;exact⟨g1,fo,rfl,own_below hown b5,eZ owR hV.size,b5,(b5.cell (aF c2)).trans c2,by have:=b5.size;omega⟩)
    have KEEP:∀w4 w7,Below wr.heap.size wr w4->w4.grownBy w7 v.ownBlock->w7.heap[B]? =some (.cells #[aa n,aa h,v] 47)/\Below B w1 w7:=fun w4 w7 b4 gr=>by
     have h4:=(b4.block B hBs).trans hblk;refine⟨(gr.block B (cZ.1 h4).1 (fun e=>by have:=hBv B e.symm;omega)).trans h4,?_⟩;exact(hb.trans (b4.mono (by omega))).grown gr (by have:=b4.size;omega) (fun r e=>by have:=hBv r e;omega)
    clear RO
    go_region_law (first|(refine step_append_lies _ rfl (.tmp 35) (.tmp 39) 45 rfl (B+1) 9 i0 (.string ⟨#[]⟩) 1 16 underlying45 hi hz0 hz1 hz2 rfl (by decide) v (n*k) ((lW aN (sP l) n k).map .string) rfl Wq ⟨g1,0,none⟩ n fo ((nP aN (sP l) n (k:Int)).map .string) rfl (by rw[List.length_map,qQ,Nat.mul_one]) (Bi owR) (GK _) (by omega) (by simp only[maxLen];omega) (by omega) (by omega) _ rfl ?_;intro g7 tK w7 kN jS NP a4M;obtain⟨hK7,bK7⟩:=KEEP _ _ b4 jS;obtain⟨-, -,cc7, -, -,ff7⟩:=kU.of hK7)|(go_simp;go_wp2_with(go_at_call 47;refine(RO2 _ (by exact(aG _ _).drew)).mono ?_;rintro e w4 ⟨g1,fo,rfl,Wq,owR,b4,cc4,hs4⟩)))
    all_goals
     have hfin:(w7.setCell ⟨B,2,none⟩ (.slice (some ⟨g7,0,none⟩) (n*k+n) tK)).heap[B]? =some (.cells #[aa n,aa h,.slice (some ⟨g7,0,none⟩) (n*k+n) tK] 47):=by
      rw[heap_setCell_same w7 B 2 _ _ _ hK7];rfl
     have a8R:(lW aN (sP l) n (k+1)).map Value.string=(lW aN (sP l) n k).map Value.string++(nP aN (sP l) n (k:Int)).map Value.string:=by rw[xA,List.map_append]
     have HFN:Hid (_/\_):=And.intro hfin a8R;have HOW:=aj kN;clear hfin a8R kN jS hK7 KEEP RO2 Wq owR;go_wp2_with fail
     go_roundw
     case rel=>
      refine⟨k+1,_,by omega,by go_num,HFN.out.1,?_,bK7.setCell ai _⟩;rw[HFN.out.2,Nat.mul_succ];exact gX HOW.out (by simp) _
     case measure=>simp[intOf];omega
   ·obtain rfl:k=h:=by omega
    have r3:=(hb.block w.heap.size hwB).trans r1;obtain⟨q0,q1,q2,z0,z1,z2⟩:=kU.of r3;obtain⟨g,cp,rfl,hg,hgl⟩:=hown.form (Nat.mul_pos hn1 ug);go_wp2_with fail;have r4:=GJ r3 (aa n) (aa k) (.slice (some ⟨g,0,none⟩) (n*k) cp);obtain⟨e0,e1,e2, -, -, -⟩:=kU.of r4;refine bodyPost_ret (v:=.tuple #[.agg #[aa n,aa k,.slice (some ⟨g,0,none⟩) (n*k) cp],.nilIface]) (by simp[results,results21,go_sem,e0,e1,e2]) rfl ?_;refine⟨.inl ⟨hok,_,rfl,?_⟩,((bwr.setCell ai _).setCell ai _).setCell ai _⟩;exact eZ (gX (gX (gX hown (by simp;omega) _) (by simp;omega) _) (by simp;omega) _) (by omega)
 ·go_wp2_with fail;have r3:=GJ r1 (aa 0) (aa 0) (.slice none 0 0);obtain⟨e0,e1,e2, -, -, -⟩:=kU.of r3;refine bodyPost_ret (v:=.tuple #[.agg #[aa 0,aa 0,.slice none 0 0],.iface 90 (.pointer (some a))]) (by simp[results,results21,go_sem,e0,e1,e2]) rfl ?_;exact⟨.inr ⟨hno,a,rfl⟩,((uP.setCell ai _).setCell ai _).setCell ai _⟩
end
end Go.Proofs.YtecneflbncjhpaaGreatDoor

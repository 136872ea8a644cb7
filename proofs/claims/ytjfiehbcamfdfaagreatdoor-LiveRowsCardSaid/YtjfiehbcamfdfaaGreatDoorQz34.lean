/- Parts of the proof. -/
import Derived.Test.YtjfiehbcamfdfaaGreatDoorQz33
import Derived.Test.YtjfiehbcamfdfaaGreatDoorQz31
import Derived.Test.YtjfiehbcamfdfaaGreatDoorQz32
namespace Go.Proofs.YtjfiehbcamfdfaaGreatDoor
open Go.Proofs.Tryz
set_option maxHeartbeats 4000000
section
open Go.RowKit
def Cu (Q:Nat->Prop)(w:ag)(v:ah)(ats:List (Bs×Bs)):Prop:=∃o cap,v=.slice o ats.length cap/\ats.length<=cap/\cap<=maxLen/\(o=none->cap=0)/\∀i x,ats[i]? =some x->∃b off,Q b/\o=some ⟨b,off,none⟩/\w.cell? (ak b (off+i*2))=some (fe x.1)/\w.cell? (ak b (off+i*2+1))=some (fe x.2)/\x.1.length<=maxLen/\x.2.length<=maxLen
mutual
def zy (Q:Nat->Prop)(w:ag)(c0 c1 c2:ah):Nd->Prop
 | .mk nm ats ks=>c0=fe nm/\nm.length<=maxLen/\Cu Q w c1 ats/\∃o cap,c2=.slice o ks.length cap/\ks.length<=cap/\cap<=maxLen/\(o=none->cap=0)/\qO Q w o 0 ks
def qO (Q:Nat->Prop)(w:ag)(o:Option Addr)(i:Nat):List Nd->Prop
 |[]=>True
 |k::l=>(∃b off c0 c1 c2,Q b/\o=some ⟨b,off,none⟩/\w.cell? (ak b (off+i*3))=some c0/\w.cell? (ak b (off+i*3+1))=some c1/\w.cell? (ak b (off+i*3+2))=some c2/\zy Q w c0 c1 c2 k)/\qO Q w o (i+1) l
end
theorem Cu.ats {Q:Nat->Prop}{w:ag}{v:ah}{ats:List (Bs×Bs)}(h:Cu Q w v ats):jW w v ats:=by
 obtain⟨o,cap,h1,h2,h3,h4,h5⟩:=h;refine⟨o,cap,h1,h2,h3,h4,fun i x hx=>?_⟩;obtain⟨b,off, -,h6⟩:=h5 i x hx;exact⟨b,off,h6⟩
mutual
theorem zy.nd {Q:Nat->Prop}{w:ag}:∀{c0 c1 c2:ah} (n:Nd),zy Q w c0 c1 c2 n->jX w c0 c1 c2 n
 |_,_,_,.mk _ _ ks,h=>by
  unfold zy at h;unfold jX;obtain⟨h1,h2,h3,o,cap,h4,h5,h6,h8,h7⟩:=h;exact⟨h1,h2,h3.ats,o,cap,h4,h5,h6,h8,qO.kds ks h7⟩
theorem qO.kds {Q:Nat->Prop}{w:ag}:∀{o:Option Addr} {i:Nat} (l:List Nd),qO Q w o i l->gX w o i l
 |_,_,[],_=>by unfold gX;trivial
 |_,_,k::l,h=>by
  unfold qO at h;unfold gX;obtain⟨⟨b,off,c0,c1,c2, -,h1,h2,h3,h4,h5⟩,h6⟩:=h;exact⟨⟨b,off,c0,c1,c2,h1,h2,h3,h4,zy.nd k h5⟩,qO.kds l h6⟩
end
def Yf (Q Q':Nat->Prop)(w w':ag):Prop:=∀b,Q b->b<w.heap.size->Q' b/\w'.heap[b]? =w.heap[b]?
theorem Yf.cell {Q Q':Nat->Prop}{w w':ag}(h:Yf Q Q' w w'){b i:Nat}{v:ah}(hq:Q b)(hc:w.cell? (ak b i)=some v):w'.cell? (ak b i)=some v:=by
 rw[World.cell?_of_block (h b hq (az hc)).2];exact hc
theorem Cu.turn {Q Q':Nat->Prop}{w w':ag}{v:ah}{ats:List (Bs×Bs)}(h:Cu Q w v ats)(t:Yf Q Q' w w'):Cu Q' w' v ats:=by
 obtain⟨o,cap,h1,h2,h3,h4,h5⟩:=h;refine⟨o,cap,h1,h2,h3,h4,fun i x hx=>?_⟩;obtain⟨b,off,hq,h6,h7,h8,h9⟩:=h5 i x hx;exact⟨b,off,(t b hq (az h7)).1,h6,t.cell hq h7,t.cell hq h8,h9⟩
mutual
theorem zy.turn {Q Q':Nat->Prop}{w w':ag}(t:Yf Q Q' w w'):∀{c0 c1 c2:ah} (n:Nd),zy Q w c0 c1 c2 n->zy Q' w' c0 c1 c2 n
 |_,_,_,.mk _ _ ks,h=>by
  unfold zy at h⊢;obtain⟨h1,h2,h3,o,cap,h4,h5,h6,h8,h7⟩:=h;exact⟨h1,h2,h3.turn t,o,cap,h4,h5,h6,h8,qO.turn t ks h7⟩
theorem qO.turn {Q Q':Nat->Prop}{w w':ag}(t:Yf Q Q' w w'):∀{o:Option Addr} {i:Nat} (l:List Nd),qO Q w o i l->qO Q' w' o i l
 |_,_,[],_=>by unfold qO;trivial
 |_,_,k::l,h=>by
  unfold qO at h⊢;obtain⟨⟨b,off,c0,c1,c2,hq,h1,h2,h3,h4,h5⟩,h6⟩:=h;exact⟨⟨b,off,c0,c1,c2,(t b hq (az h2)).1,h1,t.cell hq h2,t.cell hq h3,t.cell hq h4,zy.turn t k h5⟩,qO.turn t l h6⟩
end
theorem Cu.a4N {w:ag}{B:Nat}{v:ah}{ats:List (Bs×Bs)}(h:w.ownsRow B 65 2 v ats.length (aL ats))(hl:∀x∈ats,x.1.length<=maxLen/\x.2.length<=maxLen):Cu (fun b=>v.ownBlock=some b) w v ats:=by
 obtain⟨o,cap,h1,h2,h3,h4,h5⟩:=bS h;refine⟨o,cap,h1,h2,h3,h4,fun i x hx=>?_⟩;obtain⟨c0,c1⟩:=tY ats i x hx;obtain⟨g,hg,e0⟩:=bO h _ _ c0;obtain⟨g',hg',e1⟩:=bO h _ _ c1;obtain rfl:g=g':=by rw[hg] at hg';cases hg';rfl
 exact⟨g,0,hg,h5 g hg,by rw[Nat.zero_add];exact e0,by rw[Nat.zero_add];exact e1,hl x (List.mem_of_getElem? hx)⟩
abbrev V3:=ah×ah×ah
def uz:List V3->List ah
 |[]=>[]
 |x::r=>[x.1,x.2.1,x.2.2]++uz r
theorem Cv:∀(M:List V3) (i:Nat) (x:V3),M[i]? =some x->(uz M)[i*3]? =some x.1/\(uz M)[i*3+1]? =some x.2.1/\(uz M)[i*3+2]? =some x.2.2
 |[],i,x,h=>by simp at h
 |y::r,0,x,h=>by
  simp at h;subst h;exact⟨rfl,rfl,rfl⟩
 |y::r,i+1,x,h=>by
  have:=Cv r i x (by simpa using h);rw[show(i+1)*3=i*3+1+1+1 from by omega,show i*3+1+1+1+1=(i*3+1)+1+1+1 from rfl,show i*3+1+1+1+2=(i*3+2)+1+1+1 from rfl];simp only[uz,List.cons_append,List.nil_append,List.getElem?_cons_succ];exact this
def KR (Q:Nat->Prop)(w:ag):List V3->List Nd->Prop
 |[],[]=>True
 |x::r,n::l=>zy Q w x.1 x.2.1 x.2.2 n/\KR Q w r l
 |_,_=>False
theorem KR.len {Q:Nat->Prop}{w:ag}:∀{a:List V3} {l:List Nd},KR Q w a l->a.length=l.length
 |[],[],_=>rfl
 |_::_,_::_,h=>by simp[KR.len h.2]
 |[],_::_,h=>h.elim
 |_::_,[],h=>h.elim
theorem KR.get {Q:Nat->Prop}{w:ag}:∀{a:List V3} {l:List Nd} {i:Nat} {n:Nd},KR Q w a l->l[i]? =some n->∃x,a[i]? =some x/\zy Q w x.1 x.2.1 x.2.2 n
 |[],[],_,_,_,h=>by simp at h
 |x::_,_::_,0,_,h,hx=>by simp at hx;subst hx;exact⟨x,rfl,h.1⟩
 |_::r,_::l,i+1,n,h,hx=>by
  obtain⟨x,h1,h2⟩:=KR.get (a:=r) (l:=l) (i:=i) (n:=n) h.2 (by simpa using hx);exact⟨x,by simpa using h1,h2⟩
 |[],_::_,_,_,h,_=>h.elim
 |_::_,[],_,_,h,_=>h.elim
theorem Qq {Q:Nat->Prop}{w:ag}{o:Option Addr}:∀{l:List Nd} {i:Nat},(∀j k,l[j]? =some k->∃b off c0 c1 c2,Q b/\o=some ⟨b,off,none⟩/\w.cell? (ak b (off+(i+j)*3))=some c0/\w.cell? (ak b (off+(i+j)*3+1))=some c1/\w.cell? (ak b (off+(i+j)*3+2))=some c2/\zy Q w c0 c1 c2 k)->qO Q w o i l
 |[],_,_=>by unfold qO;trivial
 |k::l,i,h=>by
  unfold qO;refine⟨h 0 k rfl,Qq fun j k' hk=>?_⟩;have:=h (j+1) k' (by simpa using hk);rw[show i+(j+1)=i+1+j from by omega] at this;exact this
theorem zy.make {Q:Nat->Prop}{w:ag}{B:Nat}{nm:Bs}{cA vK:ah}{ats:List (Bs×Bs)}{K:List V3}{ks:List Nd}(hl:nm.length<=maxLen)(ha:Cu Q w cA ats)(hk:w.ownsRow B 25 3 vK K.length (uz K))(hr:KR Q w K ks)(hq:∀b,vK.ownBlock=some b->Q b):zy Q w (.string ⟨nm.toArray⟩) cA vK (.mk nm ats ks):=by
 unfold zy;have hlen:=hr.len;obtain⟨o,cap,h1,h2,h3,h4,h5⟩:=bS hk;refine⟨rfl,hl,ha,o,cap,by rw[<- hlen];exact h1,by omega,h3,h4,Qq fun j k hj=>?_⟩;obtain⟨x,hx,hn⟩:=hr.get hj;obtain⟨c0,c1,c2⟩:=Cv K j x hx;obtain⟨g,hg,e0⟩:=bO hk _ _ c0;obtain⟨g',hg',e1⟩:=bO hk _ _ c1;obtain rfl:g=g':=by rw[hg] at hg';cases hg';rfl
 obtain⟨g',hg',e2⟩:=bO hk _ _ c2;obtain rfl:g=g':=by rw[hg] at hg';cases hg';rfl
 rw[Nat.zero_add];exact⟨g,0,_,_,_,hq g hg,h5 g hg,by rw[Nat.zero_add];exact e0,by rw[Nat.zero_add];exact e1,by rw[Nat.zero_add];exact e2,hn⟩
structure fO (r n:Nat)(W w:ag):Prop where
 os:w.os=W.os
 tape:w.tape=W.tape
 output:w.output=W.output
 size:W.heap.size<=w.heap.size
 block:∀k,k<W.heap.size->k≠r->k≠n->w.heap[k]? =W.heap[k]?
theorem fO.trans {r n:Nat}{A B C:ag}(h:fO r n A B)(k:fO r n B C):fO r n A C:=
 ⟨k.os.trans h.os,k.tape.trans h.tape,k.output.trans h.output,Nat.le_trans h.size k.size,fun i hi h1 h2=>(k.block i (Nat.lt_of_lt_of_le hi h.size) h1 h2).trans (h.block i hi h1 h2)⟩
theorem fO.vY {r n:Nat}{A B:ag}(h:dA r A B):fO r n A B:=⟨h.os,h.tape,h.output,h.size,fun i hi h1 _=>h.block i hi h1⟩
theorem fO.of_below {r n:Nat}{A B:ag}(h:Below A.heap.size A B):fO r n A B:=⟨h.os,h.tape,h.output,h.size,fun i hi _ _=>h.block i hi⟩
theorem fO.U6 {r n:Nat}(A:ag)(i:Nat)(v:ah):fO r n A (A.setCell ⟨n,i,none⟩ v):=by
 have hs:=(Below.refl n A).setCell (p:=⟨n,i,none⟩) ai v;exact⟨hs.os,hs.tape,hs.output,hs.size,fun k _ _ hb=>Below.heap_setCell _ _ _ k hb⟩
theorem fO.keep {r n:Nat}{A B C:ag}(h:dA r A B)(k:fO r n B C)(hn:A.heap.size<=n):dA r A C:=
 ⟨k.os.trans h.os,k.tape.trans h.tape,k.output.trans h.output,Nat.le_trans h.size k.size,fun i hi h1=>(k.block i (Nat.lt_of_lt_of_le hi h.size) h1 (by omega)).trans (h.block i hi h1)⟩
theorem fO.grown {r n:Nat}{A B C:ag}{g:Option Nat}(h:fO r n A B)(k:B.grownBy C g)(hg:∀b,g=some b->A.heap.size<=b):fO r n A C:=
 ⟨k.os.trans h.os,k.tape.trans h.tape,k.output.trans h.output,Nat.le_trans h.size k.size,fun i hi h1 h2=>(k.block i (Nat.lt_of_lt_of_le hi h.size) (fun e=>by have:=hg i e.symm;omega)).trans (h.block i hi h1 h2)⟩
theorem dA.al {b:Nat}{A B:ag}(h:dA b A B)(o:Obj):dA b A (B.alloc o):=h.trans (dA.of_below (di B o))
def RD (R:Nat)(s:Bs)(w:ag):Prop:=w.heap[R]? =some (.cells #[.string ⟨s.toArray⟩] 92)
theorem RD.cell {R:Nat}{s:Bs}{w:ag}(h:RD R s w):w.cell? (ak R 0)=some (.string ⟨s.toArray⟩):=aF h 0 _ rfl
theorem RD.dD {R:Nat}{s:Bs}{w:ag}(h:RD R s w):w.frozen? ⟨R,0,none⟩=false:=by
 unfold RD at h;unfold World.frozen?;rw[h];rfl
theorem RD.lt {R:Nat}{s:Bs}{w:ag}(h:RD R s w):R<w.heap.size:=aM h
theorem RD.set {R:Nat}{s t:Bs}{w:ag}(h:RD R s w):RD R t (w.setCell ⟨R,0,none⟩ (.string ⟨t.toArray⟩)):=by
 unfold RD at h⊢;rw[heap_setCell_same w R 0 _ _ _ h];rfl
theorem RD.al {R:Nat}{s:Bs}{w:ag}(h:RD R s w)(o:Obj):RD R s (w.alloc o):=by
 have:=h.lt;unfold RD at h⊢;rw[<- h];exact(di w o).block R this
end
section
open Go.RowKit
set_option maxRecDepth 20000
def a1l (wd s:Bs):Bs:=if wd.isPrefixOf s=true then s.drop wd.length else s
theorem Yg {wd s:Bs}(h:wd.isPrefixOf s=true):a1l wd s=s.drop wd.length:=if_pos h
theorem a1m {wd s:Bs}(h:wd.isPrefixOf s=false):a1l wd s=s:=if_neg (by rw[h];simp)
theorem GK (s p:Bs)(w:ag):ax 115 #[.string ⟨s.toArray⟩,.string ⟨p.toArray⟩] w fun e w'=>e=.returned (.tuple #[.string ⟨(a1l p s).toArray⟩,.bool (p.isPrefixOf s)])/\w'=w:=by
 have:=Tryz.strings_CutPrefix ⟨s.toArray⟩ ⟨p.toArray⟩ w;exact this
theorem Lf (R:Nat)(s wd:Bs)(W:ag)(h:RD R s W):ax 69 #[ay R,.string ⟨wd.toArray⟩] W fun e w'=>e=.returned (.bool (wd.isPrefixOf s))/\RD R (a1l wd s) w'/\dA R W w':=by
 have c:=h.cell;have f:=h.dD;go_enter func69,ntmps69;go_wp2_with(go_at_call 115;refine(GK s wd _).mono ?_;rintro e w1 ⟨rfl,rfl⟩);go_ret;exact⟨rfl,h.set,(dA.of_below (Below.refl _ _)).setCell _⟩
theorem uA (ends:Bs)(W:ag):ax 71 #[.string ⟨ends.toArray⟩] W fun e w'=>e=.returned (.func (.func 116) #[] #[ay W.heap.size])/\w'=W.alloc (.cells #[.string ⟨ends.toArray⟩] 9):=by
 go_enter func71,ntmps71;go_wp2;go_ret;exact⟨rfl,rfl⟩
def O9 (ends:Bs)(c:UInt8):Bool:=decide (Lib.indexByte ends c<0)
theorem Yh (ends:Bs)(c:UInt8):O9 ends c= !(ends.any (fun b=>b==c)):=by
 unfold O9
 induction ends with
 |nil=>rfl
 |cons b l ih=>
  have hr: -1<=Lib.indexByte l c:=by
   clear ih
   induction l with
   |nil=>exact Int.le_refl _
   |cons d l ih=>unfold Lib.indexByte;split;decide;split;decide;omega
  rw[List.any_cons];unfold Lib.indexByte;by_cases hb:(b==c)=true
  ·rw[if_pos hb,hb];rfl
  ·rw[if_neg hb,Bool.eq_false_iff.2 hb,Bool.false_or,<- ih];by_cases h1:(Lib.indexByte l c== -1)=true
   ·rw[if_pos h1,eq_of_beq h1]
   ·rw[if_neg h1];have:Lib.indexByte l c≠-1:=fun e=>h1 (by rw[e];rfl);rw[decide_eq_false (by omega),decide_eq_false (by omega)]
theorem a8Y:O9 [32,61,34,60,62,47]=fun c=> !eB c:=by
 funext c;rw[Yh];simp[eB,Bool.beq_comm,Bool.or_assoc]
theorem a8Z:O9 [60,62,38,34]=fun c=> !mB c:=by
 funext c;rw[Yh];simp[mB,Bool.beq_comm,Bool.or_assoc]
theorem GL (ends:Bs)(c:UInt8)(w:ag):ax 117 #[.string ⟨ends.toArray⟩,.int .u8 c.toNat] w fun e w'=>e=.returned (aa (Lib.indexByte ends c))/\w'=w:=by
 have:=Tryz.strings_IndexByte ⟨ends.toArray⟩ c.toNat w;rw[show((c.toNat:Int)).toNat.toUInt8=c from by simp] at this;exact this
theorem Lg (ends:Bs)(c:UInt8)(B:Nat)(W:ag)(h:W.cell? (ak B 0)=some (.string ⟨ends.toArray⟩)):ax 116 #[.int .u8 c.toNat,ay B] W fun e w'=>e=.returned (.bool (O9 ends c))/\w'=W:=by
 go_enter func116,ntmps116;go_wp2_with(go_at_call 117;refine(GL ends c _).mono ?_;rintro e w1 ⟨rfl,rfl⟩);go_ret;exact⟨rfl,rfl⟩
theorem Qr {P:UInt8->Bool}{s:Bs}{i:Nat}(h:∀j c,j<i->s[j]? =some c->P c=true)(he:∀c,s[i]? =some c->P c=false):s.takeWhile P=s.take i/\s.dropWhile P=s.drop i:=by
 have h1:∀c∈s.take i,P c=true:=fun c hc=>by
  obtain⟨j,hj⟩:=List.mem_iff_getElem?.1 hc;rw[List.getElem?_take] at hj;split at hj
  ·exact h j c (by assumption) hj
  ·cases hj
 have h2:(s.drop i).takeWhile P=[]/\(s.drop i).dropWhile P=s.drop i:=by
  cases hd:s.drop i with
  |nil=>exact⟨rfl,rfl⟩
  |cons c r=>
   have:s[i]? =some c:=by have:=congrArg List.head? hd;simpa using this
   have:=he c this;exact⟨List.takeWhile_cons_of_neg (by simp[this]),List.dropWhile_cons_of_neg (by simp[this])⟩
 have e:s=s.take i++s.drop i:=(List.take_append_drop i s).symm;constructor
 ·conv=>lhs;rw[e]
  rw[List.takeWhile_append_of_pos h1,h2.1,List.append_nil]
 ·conv=>lhs;rw[e]
  rw[List.dropWhile_append_of_pos h1,h2.2]
theorem a4O (s:Bs)(i:Nat)(h:i<(⟨s.toArray⟩:aD).size):s[i]? =some ((⟨s.toArray⟩:aD)[i]):=by
 rw[<- P7 ⟨s.toArray⟩ i h];exact List.getElem?_eq_getElem _
theorem Qs (s:Bs)(i:Nat):(⟨s.toArray⟩:aD).extract 0 i=⟨(s.take i).toArray⟩:=by
 have h:=Lib.extract_data ⟨s.toArray⟩ 0 i;cases he:(⟨s.toArray⟩:aD).extract 0 i with
 |mk d=>
  rw[he] at h;simp at h;rw[<- h]
theorem a1n (s:Bs)(i:Nat):(⟨s.toArray⟩:aD).extract i s.length=⟨(s.drop i).toArray⟩:=by
 have h:=Lib.extract_to_end ⟨s.toArray⟩ i;rw[dS] at h;cases he:(⟨s.toArray⟩:aD).extract i s.length with
 |mk d=>
  rw[he] at h;simp at h;rw[<- h]
theorem Lh (R:Nat)(s ends:Bs)(B:Nat)(W:ag)(h:RD R s W)(hB:W.heap[B]? =some (.cells #[.string ⟨ends.toArray⟩] 9))(hl:s.length<=100000):
  ax 70 #[ay R,.func (.func 116) #[] #[ay B]] W fun e w'=>e=.returned (.string ⟨(s.takeWhile (O9 ends)).toArray⟩)/\RD R (s.dropWhile (O9 ends)) w'/\dA R W w':=by
 have c:=h.cell;have f:=h.dD;have hb:=aF hB 0 _ rfl;have hsz:=dS s;go_enter func70,ntmps70;go_wp2_with fail
 go_loopw [5] (fun y wr=>∃i:Nat,y=aa i/\i<=s.length/\(∀j c,j<i->s[j]? =some c->O9 ends c=true)/\wr=W) (fun y _=>s.length-(intOf y).toNat)
 case atStart=>exact⟨0,rfl,Nat.zero_le _,fun j _ h=>absurd h (Nat.not_lt_zero _),rfl⟩
 case round=>
  obtain⟨i,rfl,hi,hsm,rfl⟩:=hrel;have HS:=aj hsm;clear hsm;by_cases hlt:i<s.length
  ·have hlt':(i:Int)<(s.length:Int):=by omega
   have hget:=a4O s i (by rw[hsz];exact hlt);have hlt2:i<(⟨s.toArray⟩:aD).size:=by rw[hsz];exact hlt
   obtain⟨c1,hc1⟩:∃c1,(⟨s.toArray⟩:aD)[i]=c1:=⟨_,rfl⟩;rw[hc1] at hget;cases hft:O9 ends c1 with
   |true=>
    have HN:Hid (∀j c,j<i+1->s[j]? =some c->O9 ends c=true):=(fun j c hj hc=>by
     by_cases e:j<i
     ·exact HS.out j c e hc
     ·obtain rfl:j=i:=by omega
      rw[hget] at hc;cases hc;exact hft:∀j c,j<i+1->s[j]? =some c->O9 ends c=true)
    have HF:=Lg ends c1 B wr hb;rw[hft] at HF;clear hget hft;go_wp2_with(go_at_call 116;refine HF.mono ?_;rintro e w1 ⟨rfl,rfl⟩)
    go_roundw
    case rel=>exact⟨i+1,by go_num,by omega,HN.out,trivial⟩
    case measure=>simp[intOf];omega
   |false=>
    have HT:Hid (s.takeWhile (O9 ends)=s.take i/\s.dropWhile (O9 ends)=s.drop i):=Qr HS.out (fun c hc=>by rw[hget] at hc;cases hc;exact hft);have HF:=Lg ends c1 B wr hb;rw[hft] at HF;clear hget hft;go_wp2_with(go_at_call 116;refine HF.mono ?_;rintro e w1 ⟨rfl,rfl⟩);go_ret;refine⟨by rw[HT.out.1,<- Qs];rfl,?_,(dA.of_below (Below.refl _ _)).setCell _⟩;have q:=RD.set (t:=s.drop i) h;rw[<- a1n] at q;rw[HT.out.2];exact q
  ·obtain rfl:i=s.length:=by omega
   have HT:Hid (s.takeWhile (O9 ends)=s.take s.length/\s.dropWhile (O9 ends)=s.drop s.length):=Qr HS.out (fun c hc=>by rw[List.getElem?_eq_none ai] at hc;cases hc);go_wp2_with fail;go_ret;refine⟨by rw[HT.out.1,<- Qs];rfl,?_,(dA.of_below (Below.refl _ _)).setCell _⟩;rw[HT.out.2,List.drop_length];exact RD.set (t:=[]) h
end
section
open Go.RowKit
theorem dA.grown {b:Nat}{A B:ag}(h:dA b A B):A.grownBy B (some b):=⟨h.os,h.tape,h.output,h.size,fun k hk hne=>h.block k hk (fun e=>hne (by rw[e]))⟩
theorem dA.low {b:Nat}{A B C:ag}(h:dA b A B)(k:Below A.heap.size B C):dA b A C:=⟨k.os.trans h.os,k.tape.trans h.tape,k.output.trans h.output,Nat.le_trans h.size k.size,fun i hi hb=>(k.block i hi).trans (h.block i hi hb)⟩
theorem Bd.keep {B b R:Nat}{l:Bs}{w w':ag}(h:Bd B b l w)(k:dA R w w')(hR:R<B):Bd B b l w':=by
 have aux:∀p,Lib.BuilderAtF 99 5 B b p (Lib.byteCells l) w->Lib.BuilderAtF 99 5 B b p (Lib.byteCells l) w':=fun p ⟨hB,v,hb,ho,hne⟩=>
  ⟨hB,v,by rw[k.block b (aM hb) (by omega)];exact hb,ho.kept k.grown (.inr fun e=>by have:=(ho.lt R e).1;omega),hne⟩
 exact h.elim (fun x=>.inl (aux _ x)) (fun x=>.inr (aux _ x))
theorem dA.blk {b:Nat}{A B:ag}(h:dA b A B){N:Nat}{o:Obj}(hN:A.heap[N]? =some o)(hne:N≠b):B.heap[N]? =some o:=by
 rw[h.block N (aM hN) hne];exact hN
def left (R:Nat)(w:ag):Nat:=match w.cell? (ak R 0) with
 |some (.string s)=>s.size
 |_=>0
theorem RD.left {R:Nat}{s:Bs}{w:ag}(h:RD R s w):left R w=s.length:=by
 unfold Go.Proofs.YtjfiehbcamfdfaaGreatDoor.left;rw[h.cell];exact dS s
theorem RD.low {R B:Nat}{s:Bs}{w w':ag}(h:RD R s w)(hb:Below B w w')(hR:R<B):RD R s w':=by
 unfold RD at h⊢;rw[<- h];exact hb.block R hR
theorem qP (R:Nat)(s wd:Bs)(W:ag)(h:RD R s W)(hp:wd.isPrefixOf s=true):ax 69 #[ay R,.string ⟨wd.toArray⟩] W fun e w'=>e=.returned (.bool true)/\RD R (s.drop wd.length) w'/\dA R W w':=by
 have:=Lf R s wd W h;rw[hp,Yg hp] at this;exact this
theorem a1o (R:Nat)(s wd:Bs)(W:ag)(h:RD R s W)(hp:wd.isPrefixOf s=false):ax 69 #[ay R,.string ⟨wd.toArray⟩] W fun e w'=>e=.returned (.bool false)/\RD R s w'/\dA R W w':=by
 have:=Lf R s wd W h;rw[hp,a1m hp] at this;exact this
theorem U7 (R:Nat)(s:Bs)(B:Nat)(W:ag)(h:RD R s W)(hB:W.heap[B]? =some (.cells #[.string ⟨([60,62,38,34]:Bs).toArray⟩] 9))(hl:s.length<=100000):
  ax 70 #[ay R,.func (.func 116) #[] #[ay B]] W fun e w'=>e=.returned (.string ⟨(tkM s).toArray⟩)/\RD R (drM s) w'/\dA R W w':=by
 have:=Lh R s _ B W h hB hl;rw[a8Z] at this;exact this
theorem F8 (R:Nat)(s:Bs)(B:Nat)(W:ag)(h:RD R s W)(hB:W.heap[B]? =some (.cells #[.string ⟨([32,61,34,60,62,47]:Bs).toArray⟩] 9))(hl:s.length<=100000):
  ax 70 #[ay R,.func (.func 116) #[] #[ay B]] W fun e w'=>e=.returned (.string ⟨(xN s).toArray⟩)/\RD R (Qn s) w'/\dA R W w':=by
 have:=Lh R s _ B W h hB hl;rw[a8Y] at this;exact this
theorem NB.dD {N:Nat}{c0 c1 c2:ah}{w:ag}(h:NB N c0 c1 c2 w)(i:Nat):w.frozen? ⟨N,i,none⟩=false:=by
 unfold NB at h;unfold World.frozen?;rw[h];simp
theorem NB.lt {N:Nat}{c0 c1 c2:ah}{w:ag}(h:NB N c0 c1 c2 w):N<w.heap.size:=aM h
theorem NB.keep {N R:Nat}{c0 c1 c2:ah}{w w':ag}(h:NB N c0 c1 c2 w)(k:dA R w w')(hne:R≠N):NB N c0 c1 c2 w':=k.blk h (fun e=>hne e.symm)
theorem NB.al {N:Nat}{c0 c1 c2:ah}{w:ag}(h:NB N c0 c1 c2 w)(o:Obj):NB N c0 c1 c2 (w.alloc o):=by
 have:=h.lt;unfold NB at h⊢;rw[<- h];exact(di w o).block N this
theorem NB.grown {N:Nat}{g:Option Nat}{c0 c1 c2:ah}{w w':ag}(h:NB N c0 c1 c2 w)(k:w.grownBy w' g)(hne:some N≠g):NB N c0 c1 c2 w':=by
 have:=h.lt;unfold NB at h⊢;rw[<- h];exact k.block N this hne
theorem NB.set1 {N:Nat}{c0 c1 c2:ah}{w:ag}(h:NB N c0 c1 c2 w)(v:ah):NB N c0 v c2 (w.setCell ⟨N,1,none⟩ v):=by
 unfold NB at h⊢;rw[heap_setCell_same w N 1 _ _ _ h];rfl
theorem RD.grown {R:Nat}{g:Option Nat}{s:Bs}{w w':ag}(h:RD R s w)(k:w.grownBy w' g)(hne:some R≠g):RD R s w':=by
 have:=h.lt;unfold RD at h⊢;rw[<- h];exact k.block R this hne
theorem RD.U6 {R N:Nat}{s:Bs}{w:ag}(h:RD R s w)(i:Nat)(v:ah)(hne:R≠N):RD R s (w.setCell ⟨N,i,none⟩ v):=by
 unfold RD at h⊢;rw[<- h];exact Below.heap_setCell w _ v R hne
theorem dA.set (N:Nat)(i:Nat)(w:ag)(v:ah):dA N w (w.setCell ⟨N,i,none⟩ v):=by
 have hs:=(Below.refl N w).setCell (p:=⟨N,i,none⟩) ai v;exact⟨hs.os,hs.tape,hs.output,hs.size,fun k _ hb=>Below.heap_setCell _ _ _ k hb⟩
theorem lG {R B k n:Nat}{e:TypeId}{v:ah}{xs:List ah}{w w':ag}(h:w.ownsRow B e k v n xs)(hk:dA R w w')(hR:R<B):w'.ownsRow B e k v n xs:=
 h.kept hk.grown (.inr fun e=>by have:=(h.lt R e).1;omega)
theorem U8 (w:ag)(a b:ah)(t:TypeId):∀j u,[a,b][j]? =some u->(w.alloc (.cells #[a,b] t)).cell? ((⟨w.heap.size,0,none⟩:Addr).add j)=some u:=by
 intro j u h;have e:(⟨w.heap.size,0,none⟩:Addr).add j=⟨w.heap.size,j,none⟩:=by unfold Addr.add;split<;>simp_all
 rw[e];exact gP w #[a,b] t j u (by simpa using h)
theorem uB {w:ag}{B:Nat}{e:TypeId}{k:Nat}{v:ah}{n:Nat}{xs:List ah}(h:w.ownsRow B e k v n xs):∃o cap,v=.slice o n cap:=by
 obtain⟨o,cap,h1, -⟩:=bS h;exact⟨o,cap,h1⟩
theorem NB.Iu {Z R N:Nat}{c0 c1 c2:ah}{w w':ag}(h:NB Z c0 c1 c2 w)(k:fO R N w w')(h1:Z≠R)(h2:Z≠N):NB Z c0 c1 c2 w':=by
 have:=h.lt;unfold NB at h⊢;rw[k.block Z this h1 h2];exact h
theorem dA.a4P {R Z:Nat}{W w:ag}(h:dA R W w)(hZ:W.heap.size<=Z)(i:Nat)(v:ah):dA R W (w.setCell ⟨Z,i,none⟩ v):=
 h.low ((Below.refl _ w).setCell (p:=⟨Z,i,none⟩) hZ v)
abbrev a1p (Z:Nat)(a b c:ah)(w:ag):ag:=((w.setCell ⟨Z,0,none⟩ a).setCell ⟨Z,1,none⟩ b).setCell ⟨Z,2,none⟩ c
theorem a4Q {R Z:Nat}{W w:ag}(h:dA R W w)(hZ:W.heap.size<=Z)(a b c:ah):dA R W (a1p Z a b c w):=((h.a4P hZ _ _).a4P hZ _ _).a4P hZ _ _
theorem a4R {R Z U:Nat}{W w:ag}{nm:Bs}{vA vK:ah}{ats:List (Bs×Bs)}{K:List V3}{ks:List Nd}{z:Bs}(hl:nm.length<=maxLen)(vC:∀x∈ats,x.1.length<=maxLen/\x.2.length<=maxLen)
  (ow:w.ownsRow U 65 2 vA ats.length (aL ats)) (owK:w.ownsRow U 25 3 vK K.length (uz K)) (hk:KR (fun b=>U<=b) w K ks) (rd:RD R z w) (hZ:W.heap.size<=Z) (hU:Z<U) (YN:R≠Z):
  RD R z (a1p Z (.string ⟨nm.toArray⟩) vA vK w)/\zy (fun b=>W.heap.size<=b) (a1p Z (.string ⟨nm.toArray⟩) vA vK w) (.string ⟨nm.toArray⟩) vA vK (.mk nm ats ks):=by
 refine⟨((rd.U6 _ _ YN).U6 _ _ YN).U6 _ _ YN,?_⟩;refine zy.turn (Q:=fun b=>U<=b) (w:=w) (fun b hb _=>⟨by omega,?_⟩) _ (zy.make hl (Cu.turn (Cu.a4N ow vC) (fun b hb _=>⟨(ow.lt b hb).1,rfl⟩)) owK hk (fun b hb=>(owK.lt b hb).1));have hbz:b≠Z:=by omega
 rw[Below.heap_setCell _ _ _ b hbz,Below.heap_setCell _ _ _ b hbz,Below.heap_setCell _ _ _ b hbz]
abbrev St:=Bs×List (Bs×Bs)×Int
def st (f:Fl):St:=(f.name,f.attrs,f.parent)
end
section
open Go.RowKit
set_option maxRecDepth 20000
theorem U9 (R:Nat)(s:Bs)(W:ag)(h:RD R s W)(hl:s.length<=10000)(hp:[34].isPrefixOf (drM s)=true):
  ax 118 #[ay R] W fun e w'=>dA R W w'/\e=.returned (.tuple #[.string ⟨(tkM s).toArray⟩,.bool true])/\RD R ((drM s).drop 1) w':=by
 have hR:=h.lt;have b0:=di W (.cells #[.pointer none,.slice none 0 0] 99);have a90:=Bd.fresh W.heap.size W ai;go_enter func118,ntmps118;go_wp2_with fail;obtain⟨V,hV⟩:∃V,W.alloc (.cells #[.pointer none,.slice none 0 0] 99)=V:=⟨_,rfl⟩;have a92:=h.al (.cells #[.pointer none,.slice none 0 0] 99);rw[hV] at b0 a90 a92⊢;clear hV
 go_loopw [] (fun wr=>∃acc rest:Bs,acc=[]/\rest=s/\RD R rest wr/\Bd W.heap.size W.heap.size acc wr/\dA R W wr) (fun _=>0)
 case atStart=>exact⟨[],s,rfl,rfl,a92,a90,dA.of_below b0⟩
 case round=>
  obtain⟨acc,rest,hac,hrs,hrd,hbd,hkp⟩:=hrel;have alm:acc.length=0:=by rw[hac];rfl
  have HA:Hid (acc=[]/\rest=s):=⟨hac,hrs⟩;rw[<- hrs] at hp hl;clear hac hrs;have hml:=Qp rest;have NO:=uA [60,62,38,34] wr;have GU:=hrd.al (.cells #[.string ⟨([60,62,38,34]:Bs).toArray⟩] 9);have nb:=cZ wr #[.string ⟨([60,62,38,34]:Bs).toArray⟩] 9;have TK:=U7 R rest wr.heap.size _ GU nb (by omega);have k1:=hkp.trans (dA.of_below (di wr (.cells #[.string ⟨([60,62,38,34]:Bs).toArray⟩] 9)));have bd1:=hbd.al (.cells #[.string ⟨([60,62,38,34]:Bs).toArray⟩] 9);clear hrd hbd nb GU;go_wp2_with(first|(go_at_call 71;refine NO.mono ?_;rintro e w1 ⟨rfl,rfl⟩)|(go_at_call 70;refine TK.mono ?_;rintro e w2 ⟨rfl,ze,k2⟩;have K2:=k1.trans k2;have bd2:=bd1.keep k2 hR)|(go_at_call 161;refine(yS W.heap.size W.heap.size acc (tkM rest) _ bd2 (by omega) K2.size).mono ?_;rintro e w3 ⟨rfl,bd3,bk3⟩;have rd3:=ze.low bk3.low hR;have K3:=K2.low bk3.low)|(go_at_call 69;refine(qP R _ [34] _ rd3 hp).mono ?_;rintro e w4 ⟨rfl,rd4,k4⟩;have bd4:=bd3.keep k4 hR;have K4:=K3.trans k4)|(go_at_call 40;refine(Tryz.Builder_String_any_k W.heap.size _ _ _ bd4 K4.size).mono ?_;rintro e w5 ⟨rfl, -,hb5, -⟩))
  go_ret2
  obtain⟨rfl,rfl⟩:=HA.out;exact⟨K4.low hb5,rfl,rd4.low hb5 hR⟩
def rdP:Nat->Bs->Option (List (Bs×Bs)×Bs)
 |0,_=>none
 |f+1,s=>if[32].isPrefixOf s=true then(if xN (s.drop 1)≠[]/\[61,34].isPrefixOf (Qn (s.drop 1))=true/\[34].isPrefixOf (drM ((Qn (s.drop 1)).drop 2))=true then(rdP f ((drM ((Qn (s.drop 1)).drop 2)).drop 1)).map fun q=>((xN (s.drop 1),tkM ((Qn (s.drop 1)).drop 2))::q.1,q.2) else none) else some ([],s)
theorem Yi (R N f0:Nat)(s:Bs)(ats:List (Bs×Bs))(y:Bs)(c0 c2:ah)(W:ag)(h:RD R s W)(hN:NB N c0 (.slice none 0 0) c2 W)(hne:R≠N)(hl:s.length<=10000)(hs:rdP f0 s=some (ats,y)):
  ax 72 #[ay R,ay N] W fun e w'=>fO R N W w'/\e=.returned (.bool true)/\RD R y w'/\∃oA cA,NB N c0 (.slice oA ats.length cA) c2 w'/\w'.ownsRow W.heap.size 65 2 (.slice oA ats.length cA) ats.length (aL ats):=by
 have hR:=h.lt;have hNl:=hN.lt;obtain⟨i0,hi,hz0,hz1,hz2⟩:=info_parts vB;go_enter func72,ntmps72;go_wp2_with fail
 go_loopw [] (fun wr=>∃(acc at':List (Bs×Bs)) (rest:Bs) (f:Nat) (vA:ah),rest.length+4*acc.length<=s.length/\rdP f rest=some (at',y)/\acc++at'=ats/\RD R rest wr/\NB N c0 vA c2 wr/\wr.ownsRow W.heap.size 65 2 vA acc.length (aL acc)/\fO R N W wr) (fun wr=>left R wr)
 case atStart=>exact⟨[],ats,s,f0,.slice none 0 0,by simp,hs,rfl,h,hN,World.ownsRow_nil _ _ _ _,fO.of_below (Below.refl _ _)⟩
 case round=>
  obtain⟨acc,at',rest,f,vA,hal,heq,hat,hrd,hnb,hown,hkp⟩:=hrel;obtain⟨f,rfl⟩:∃g,f=g+1:=by
   cases f with
   |zero=>cases heq
   |succ g=>exact⟨g,rfl⟩
  rw[rdP] at heq;have HL:Hid (left R wr=rest.length):=hrd.left;cases hp:[32].isPrefixOf rest with
  |false=>
   rw[if_neg (by rw[hp];simp)] at heq;cases heq;rw[List.append_nil] at hat;subst hat;obtain⟨oA,cA,rfl⟩:=uB hown;go_wp2_with(go_at_call 69;refine(a1o R _ [32] _ hrd hp).mono ?_;rintro e w1 ⟨rfl,GU,k1⟩);go_ret;exact⟨hkp.trans (fO.vY k1),rfl,GU,oA,cA,hnb.keep k1 hne,lG hown k1 hR⟩
  |true=>
   rw[if_pos hp] at heq;have hlr:=vX hp;have SK1:=qP R rest [32] wr hrd hp;obtain⟨r,hr⟩:∃r,rest.drop 1=r:=⟨_,rfl⟩;have ady:1+r.length=rest.length:=by rw[<- hr];exact hlr
   rw[show rest.drop ([32]:Bs).length=r from hr] at SK1;rw[hr] at heq;split at heq
   ·next hc=>
    obtain⟨he,hq,hv⟩:=hc;clear hlr hr hp;have hte:=Qo r;have hem:(xN r).isEmpty=false:=by
     cases ht:xN r with
     |nil=>exact absurd ht he
     |cons _ _=>rfl
    have hlq:=vX hq;have SK2:=fun W h=>qP R (Qn r) [61,34] W h hq;obtain⟨x,hx⟩:∃x,(Qn r).drop 2=x:=⟨_,rfl⟩;have alp:2+x.length=(Qn r).length:=by rw[<- hx];exact hlq
    rw[show(Qn r).drop ([61,34]:Bs).length=x from hx] at SK2;rw[hx] at heq hv;have hlz:=vX hv;have adz:=Qp x;have VL0:=fun W (h:RD R x W)=>U9 R x W h (by omega) hv;obtain⟨v,hvv⟩:∃v,tkM x=v:=⟨_,rfl⟩;obtain⟨z,hzz⟩:∃z,(drM x).drop 1=z:=⟨_,rfl⟩;have alq:1+z.length=(drM x).length:=by rw[<- hzz];exact hlz
    rw[hvv] at heq adz;rw[hzz] at heq;have VL:∀W,RD R x W->ax 118 #[ay R] W fun e w'=>dA R W w'/\e=.returned (.tuple #[.string ⟨v.toArray⟩,.bool true])/\RD R z w':=by rw[<- hvv,<- hzz];exact VL0
    obtain⟨q,hq1,hq2⟩:=Option.map_eq_some_iff.1 heq;obtain⟨a2,y2⟩:=q;have HZ:Hid (rdP f z=some (a2,y)/\(acc++[(xN r,v)])++a2=ats):=by
     cases hq2;exact⟨hq1,by rw[List.append_assoc];exact hat⟩
    clear VL0 hlq hx hq hlz hv hvv hzz hq1 hq2 heq hat;obtain⟨oA,alr,rfl⟩:=uB hown;go_upto_region 8 with(first|(go_at_call 118;refine(VL _ rd4).mono ?_;rintro e w5 ⟨k5,rfl,rd5⟩;have nb5:=nb4.keep k5 hne;have GZ:=lG Yy k5 hR;have K5:=K4.trans (fO.vY k5);have n1:=nb5.c1;clear rd4 nb4 Yy)|(have z3:=rd3;go_at_call 69;refine(SK2 _ z3).mono ?_;rintro e w4 ⟨rfl,rd4,k4⟩;have nb4:=nb3.keep k4 hne;have Yy:=lG ED k4 hR;have K4:=K3.trans (fO.vY k4);clear z3 rd3 nb3 ED)|(go_at_call 70;refine(F8 R r _ _ ze nx (by omega)).mono ?_;rintro e w3 ⟨rfl,rd3,k3⟩;have nb3:=nb2.keep k3 hne;have ED:=lG Ls k3 hR;have K3:=K2.trans (fO.vY k3);clear ze nb2 Ls)|(go_at_call 71;refine(uA [32,61,34,60,62,47] _).mono ?_;rintro e w2 ⟨rfl,rfl⟩)|(go_at_call 69;refine SK1.mono ?_;rintro e w1 ⟨rfl,GU,k1⟩;have nx:=cZ w1 #[.string ⟨([32,61,34,60,62,47]:Bs).toArray⟩] 9;have ze:=GU.al (.cells #[.string ⟨([32,61,34,60,62,47]:Bs).toArray⟩] 9);have nb2:=(hnb.keep k1 hne).al (.cells #[.string ⟨([32,61,34,60,62,47]:Bs).toArray⟩] 9);have Ls:=World.ownsRow.alloc (lG hown k1 hR) (.cells #[.string ⟨([32,61,34,60,62,47]:Bs).toArray⟩] 9);have K2:=(hkp.trans (fO.vY k1)).trans (fO.of_below (di w1 (.cells #[.string ⟨([32,61,34,60,62,47]:Bs).toArray⟩] 9)));clear GU));go_wp2_with(at_builtin;refine wpList_append_own _ rfl _ _ 22 rfl W.heap.size 65 i0 (.agg #[.string ⟨#[]⟩,.string ⟨#[]⟩]) 2 32 underlying22 hi hz0 hz1 hz2 rfl (by decide) _ _ _ rfl (World.ownsRow.alloc GZ _) ⟨w5.heap.size,0,none⟩ 1 1 [.string ⟨(xN r).toArray⟩,.string ⟨v.toArray⟩] rfl rfl (U8 w5 _ _ _) (fun u hu=>by simp at hu;rcases hu with rfl|rfl<;>rfl) (by rw[bq];omega) (by omega) (by have:=K5.size;simp;omega) ?_;intro v7 w7 kF lH _;have nb7:=(nb5.al _).grown lH (own_ne GZ hNl);have m1:=nb7.c1;have m2:=nb7.dD 1;obtain⟨o7,tK,rfl⟩:=uB kF);have rd7:=(rd5.al (.cells #[.string ⟨(xN r).toArray⟩,.string ⟨v.toArray⟩] 65)).grown lH (own_ne GZ hR)
    have K7:=(K5.trans (fO.of_below (di w5 (.cells #[.string ⟨(xN r).toArray⟩,.string ⟨v.toArray⟩] 65)))).grown lH (fun b hb=>(GZ.lt b hb).1);have ow8:=lG kF (dA.set N 1 w7 (.slice o7 (acc.length+1) tK)) hNl;have rd8:=rd7.U6 (N:=N) 1 (.slice o7 (acc.length+1) tK) hne
    go_roundw
    case rel=>exact⟨acc++[(xN r,v)],a2,z,f,.slice o7 (acc.length+1) tK,by simp;omega,HZ.out.1,HZ.out.2,rd8,nb7.set1 _,by rw[yx,List.length_append];exact ow8,K7.trans (fO.U6 _ _ _)⟩
    case measure=>have h1:=HL.out;have h2:=rd8.left;omega
   ·cases heq
theorem Li (R f0:Nat)(s r:Bs)(ats:List (Bs×Bs))(y:Bs)(W:ag)(hl:s.length<=10000)(h:RD R s W)(hp:[60].isPrefixOf s=true)(hr:s.drop 1=r)(he:xN r≠[])(hA:rdP f0 (Qn r)=some (ats,y))(h3:[47,62].isPrefixOf y=true)(vC:∀x∈ats,x.1.length<=maxLen/\x.2.length<=maxLen):
  ax 36 #[ay R] W fun e w'=>dA R W w'/\∃(s0:aD) (o1:Option Addr) (n1 k1:Nat) (o2:Option Addr) (n2 k2:Nat),e=.returned (.tuple #[.agg #[.string s0,.slice o1 n1 k1,.slice o2 n2 k2],.bool true])/\RD R (y.drop 2) w'/\zy (fun b=>W.heap.size<=b) w' (.string s0) (.slice o1 n1 k1) (.slice o2 n2 k2) (.mk (xN r) ats []):=by
 have hR:=h.lt;have nbZ:=cZ W #[.string ⟨#[]⟩,.slice none 0 0,.slice none 0 0] 25;have rd0:=h.al (.cells #[.string ⟨#[]⟩,.slice none 0 0,.slice none 0 0] 25);have k0:dA R W (W.alloc (.cells #[.string ⟨#[]⟩,.slice none 0 0,.slice none 0 0] 25)):=dA.of_below (di W _);obtain⟨V0,Wl⟩:∃V,W.alloc (.cells #[.string ⟨#[]⟩,.slice none 0 0,.slice none 0 0] 25)=V:=⟨_,rfl⟩;have zb0:NB W.heap.size (.string ⟨#[]⟩) (.slice none 0 0) (.slice none 0 0) V0:=by rw[<- Wl];exact nbZ
 have YN:R≠W.heap.size:=by omega
 rw[Wl] at rd0 k0;clear nbZ;have hlr:=vX hp;have SK1:=qP R s [60] V0 rd0 hp;have ady:1+r.length=s.length:=by rw[<- hr];exact hlr
 rw[show s.drop ([60]:Bs).length=r from hr] at SK1;clear hlr hr hp;have hte:=Qo r;go_enter func36,ntmps36;go_upto_region 4 with(first|(go_at_call 70;refine(F8 R r _ _ ze nx (by omega)).mono ?_;rintro e w3 ⟨rfl,rd3,k3⟩;have zb3:=zb2.keep k3 YN;have K3:=K2.trans k3)|(go_at_call 71;refine(uA [32,61,34,60,62,47] _).mono ?_;rintro e w2 ⟨rfl,rfl⟩)|(go_at_call 69;refine SK1.mono ?_;rintro e w1 ⟨rfl,GU,k1⟩;have nx:=cZ w1 #[.string ⟨([32,61,34,60,62,47]:Bs).toArray⟩] 9;have ze:=GU.al (.cells #[.string ⟨([32,61,34,60,62,47]:Bs).toArray⟩] 9);have zb2:=(zb0.keep k1 YN).al (.cells #[.string ⟨([32,61,34,60,62,47]:Bs).toArray⟩] 9);have K2:=(k0.trans k1).al (.cells #[.string ⟨([32,61,34,60,62,47]:Bs).toArray⟩] 9);clear GU));have nbU:=cZ w3 #[.string ⟨(xN r).toArray⟩,.slice none 0 0,.slice none 0 0] 25;have rdU:=rd3.al (.cells #[.string ⟨(xN r).toArray⟩,.slice none 0 0,.slice none 0 0] 25);have zbU:=zb3.al (.cells #[.string ⟨(xN r).toArray⟩,.slice none 0 0,.slice none 0 0] 25);have KU:=K3.al (.cells #[.string ⟨(xN r).toArray⟩,.slice none 0 0,.slice none 0 0] 25);have sZ:=zb3.lt;have sK:=K3.size;have szU:=aM nbU;obtain⟨U,hU⟩:∃U,w3.alloc (.cells #[.string ⟨(xN r).toArray⟩,.slice none 0 0,.slice none 0 0] 25)=U:=⟨_,rfl⟩;obtain⟨N,hN⟩:∃N,w3.heap.size=N:=⟨_,rfl⟩;have nb4:NB N (.string ⟨(xN r).toArray⟩) (.slice none 0 0) (.slice none 0 0) U:=by rw[<- hU,<- hN];exact nbU
 rw[hU] at rdU zbU KU szU⊢;rw[hN] at szU sZ sK⊢;clear nbU hU hN rd3 zb3 K3 k3 ze zb2 K2 nx k1 rd0 zb0 k0 Wl SK1;have hRN:R≠N:=by omega
 have hZN:W.heap.size≠N:=by omega
 have hZR:W.heap.size≠R:=by omega
 have hml:(xN r).length<=maxLen:=by rw[bq];omega
 have b0:=nb4.c0;have hem:(xN r).isEmpty=false:=by
  cases ht:xN r with
  |nil=>exact absurd ht he
  |cons _ _=>rfl
 have AT1:=Yi R N f0 (Qn r) ats y (.string ⟨(xN r).toArray⟩) (.slice none 0 0) U rdU nb4 hRN (by omega) hA;have HA:=aj vC;clear hA vC he;go_wp2_with(first|(go_at_call 72;refine AT1.mono ?_;rintro e w5 ⟨k5,rfl,rd5,oA,cA,nb5,GZ⟩;have zb5:=zbU.Iu k5 hZR hZN)|(go_at_call 69;refine(qP R y [47,62] _ rd5 h3).mono ?_;rintro e w6 ⟨rfl,a96,k6⟩;have rd6:RD R (y.drop 2) w6:=a96;have nb6:=nb5.keep k6 hRN;have zb6:=zb5.keep k6 YN;have YK:=lG GZ k6 (by omega);have K6:=(fO.keep KU k5 (by omega)).trans k6;clear a96;have b0:=nb6.c0;have b1:=nb6.c1;have b2:=nb6.c2;have a0:=zb6.c0;have a1:=zb6.c1;have a2:=zb6.c2;have af:=zb6.dD));refine bodyPost_ret (v:=.tuple #[.agg #[.string ⟨(xN r).toArray⟩,.slice oA ats.length cA,.slice none 0 0],.bool true]) (by simp[results,results36,go_sem,a0,a1,a2]) rfl ⟨a4Q K6 ai _ _ _,_,_,_,_,_,_,_,rfl,a4R (K:=[]) hml HA.out YK (World.ownsRow_nil _ _ _ _) trivial rd6 ai (by omega) YN⟩
theorem Oa (E:Nat->Addr)(f0:Nat)(s r:Bs)(ats:List (Bs×Bs))(y:Bs)(n:Nd)(W:ag)(hE:ME E W)(hl:s.length<=10000)(hp:[60].isPrefixOf s=true)(hr:s.drop 1=r)(he:xN r≠[])(hA:rdP f0 (Qn r)=some (ats,y))(h3:[47,62].isPrefixOf y=true)(vC:∀x∈ats,x.1.length<=maxLen/\x.2.length<=maxLen)(hy:y.drop 2=[])(hn:Nd.mk (xN r) ats []=n)(hz:(iT n 1 0).1=0):
  ax 20 #[.string ⟨s.toArray⟩] W fun e w'=>Below W.heap.size W w'/\∃c0 c1 c2,e=.returned (.tuple #[.agg #[c0,c1,c2],.nilIface])/\jX w' c0 c1 c2 n:=by
 have hsz:=dS s;have nbZ:NB W.heap.size (.string ⟨#[]⟩) (.slice none 0 0) (.slice none 0 0) (W.alloc (.cells #[.string ⟨#[]⟩,.slice none 0 0,.slice none 0 0] 25)):=cZ W #[.string ⟨#[]⟩,.slice none 0 0,.slice none 0 0] 25;have b0:=di W (.cells #[.string ⟨#[]⟩,.slice none 0 0,.slice none 0 0] 25);obtain⟨V0,Wl⟩:∃V,W.alloc (.cells #[.string ⟨#[]⟩,.slice none 0 0,.slice none 0 0] 25)=V:=⟨_,rfl⟩;rw[Wl] at nbZ b0;have rdU:RD V0.heap.size s (V0.alloc (.cells #[.string ⟨s.toArray⟩] 92)):=cZ V0 #[.string ⟨s.toArray⟩] 92;have zbU:=nbZ.al (.cells #[.string ⟨s.toArray⟩] 92);have bU:=aG b0 (di V0 (.cells #[.string ⟨s.toArray⟩] 92));have szZ:=nbZ.lt;obtain⟨U,hU⟩:∃U,V0.alloc (.cells #[.string ⟨s.toArray⟩] 92)=U:=⟨_,rfl⟩;obtain⟨R,hR⟩:∃R,V0.heap.size=R:=⟨_,rfl⟩;rw[hU] at rdU zbU bU;rw[hR] at rdU szZ;have hlt:=rdU.lt;have YN:R≠W.heap.size:=by omega
 have EL1:=Li R f0 s r ats y U hl rdU hp hr he hA h3 vC;rw[hy,hn] at EL1;clear hy hn hp hr he hA h3 vC;go_enter func20,ntmps20;go_upto_region 7 with(go_at_call 36;refine EL1.mono ?_;rintro e w2 ⟨kp2,s0,o1,n1,k1,o2,n2,k2,rfl,ze,nd2⟩;have rv:=(ze.al (.cells #[.string s0,.slice o1 n1 k1,.slice o2 n2 k2] 25)).cell);have bV:=(bU.trans (kp2.below (by omega) bU.size)).trans ((di w2 (.cells #[.string s0,.slice o1 n1 k1,.slice o2 n2 k2] 25)).mono (Nat.le_trans bU.size kp2.size));have zbV:=(zbU.keep kp2 YN).al (.cells #[.string s0,.slice o1 n1 k1,.slice o2 n2 k2] 25);have nbV:NB w2.heap.size (.string s0) (.slice o1 n1 k1) (.slice o2 n2 k2) (w2.alloc (.cells #[.string s0,.slice o1 n1 k1,.slice o2 n2 k2] 25)):=cZ w2 #[.string s0,.slice o1 n1 k1,.slice o2 n2 k2] 25;have ndV:=zy.turn (Q:=fun b=>U.heap.size<=b) (Q':=fun b=>U.heap.size<=b) (fun b hb hlt=>⟨hb,(di w2 (.cells #[.string s0,.slice o1 n1 k1,.slice o2 n2 k2] 25)).block b hlt⟩) n nd2;obtain⟨V,hV⟩:∃V,w2.alloc (.cells #[.string s0,.slice o1 n1 k1,.slice o2 n2 k2] 25)=V:=⟨_,rfl⟩;rw[hV] at bV zbV nbV ndV⊢;clear hV Wl hU hR rv;have m0:=nbV.c0;have m1:=nbV.c1;have m2:=nbV.c2;have CK:=Jr E n _ _ _ V (hE.below bV).ce (zy.nd n ndV);have zlt:=zbV.lt;have CK1:=CK.mono (R':=fun e w'=>Below V.heap.size V w'/\e=.returned .nilIface) (fun e w' h=>by
  refine⟨h.1,?_⟩;rcases h.2 with h2|h2
  ·exact h2.2
  ·exact absurd hz h2.1)
 clear CK hz;go_wp2_with(go_at_call 37;refine CK1.mono ?_;rintro e w3 ⟨b3,rfl⟩;have p0:=(b3.cell (az m0)).trans m0;have p1:=(b3.cell (az m1)).trans m1;have p2:=(b3.cell (az m2)).trans m2;have zb3:NB W.heap.size (.string ⟨#[]⟩) (.slice none 0 0) (.slice none 0 0) w3:=(b3.block _ zlt).trans zbV;have a0:=zb3.c0;have a1:=zb3.c1;have a2:=zb3.c2;have af:=zb3.dD);have bF:=bV.trans (b3.mono bV.size);have ndF:=zy.turn (Q:=fun b=>U.heap.size<=b) (Q':=fun b=>U.heap.size<=b) (w':=a1p W.heap.size (.string s0) (.slice o1 n1 k1) (.slice o2 n2 k2) w3) (fun b hb hlt=>⟨hb,by
  have hbz:b≠W.heap.size:=by omega
  rw[Below.heap_setCell _ _ _ b hbz,Below.heap_setCell _ _ _ b hbz,Below.heap_setCell _ _ _ b hbz];exact b3.block b hlt⟩) n ndV
 refine bodyPost_ret (v:=.tuple #[.agg #[.string s0,.slice o1 n1 k1,.slice o2 n2 k2],.nilIface]) (by simp[results,results20,go_sem,a0,a1,a2]) rfl ⟨?_,_,_,_,rfl,zy.nd n ndF⟩;exact(((bF.setCell ai _).setCell ai _).setCell ai _)
end
section
open Go.RowKit
def lvS:Bs:=[60,98,111,120,32,119,61,34,50,34,32,104,61,34,49,34,32,102,105,108,108,61,34,97,34,47,62]
def Ob:Nd:=.mk [98,111,120] [([119],[50]),([104],[49]),([102,105,108,108],[97])] []
def lvP:Pc:=⟨0,[⟨0,1,0,1⟩,⟨2,1,0,1⟩,⟨2,1,1,1⟩,⟨0,1,1,1⟩],[97],[119,105,110,100],0⟩
def lvX:Ed:=⟨mJ,0,0,0,[115,104,111,119],[110,111]⟩
theorem a97:rdP 10 (Qn (lvS.drop 1))=some ([([119],[50]),([104],[49]),([102,105,108,108],[97])],[47,62]):=by kernel_rfl
theorem a2r:xN (lvS.drop 1)=[98,111,120]:=by kernel_rfl
theorem a2s:(iT Ob 1 0).1=0:=by rfl
theorem F9:eF (jV Ob) []=.ok [lvP]:=by kernel_rfl
theorem a4U:jD aI ([lvP].map fK) 3 2=[⟨#[97]⟩,⟨#[97]⟩,⟨#[46]⟩,⟨#[46]⟩,⟨#[46]⟩,⟨#[46]⟩]:=by kernel_rfl
def lvA:List (Bs×Bs):=[([119],[50]),([104],[49]),([102,105,108,108],[97])]
def lvD:Dm:=lK (jV Ob) 0 ⟨[98,111,120],lvA, -1,[]⟩ (iQ lvA [115,104,111,119] [110,111])
theorem Oc:qN (jV Ob) 0 [115,104,111,119] [110,111]=.ok lvD:=by kernel_rfl
theorem Cw:eF lvD []=.ok []:=by kernel_rfl
theorem a4V:jS [lvP] [] 2=[0]:=by kernel_rfl
theorem a98:ji (fK lvP):=by
 refine⟨⟨by decide,fun a ha=>?_⟩,.inl (by kernel_rfl)⟩;have ha:a∈lvP.pts:=ha;simp only[lvP,List.mem_cons,List.not_mem_nil,or_false] at ha;rcases ha with rfl|rfl|rfl|rfl<;>(show gH _=0)<;>kernel_rfl
theorem a99:Ct [⟨#[97]⟩,⟨#[97]⟩,⟨#[46]⟩,⟨#[46]⟩,⟨#[46]⟩,⟨#[46]⟩] 3 2=[97,97,46,10,46,46,46,10]:=by kernel_rfl
theorem a9a:Ct (jD aI [] 3 2) 3 2=[46,46,46,10,46,46,46,10]:=by kernel_rfl
theorem LE.me {E:Nat->Addr}{w:ag}(h:LE E w):ME E w:=⟨h.de.c2,h.de.c4,h.de.c6,h.de.c7,h.de.c8,h.de.c10⟩
def H6 (W:ag)(LB B DB:Nat)(M:Dm)(nx c:Nat)(r:Int->Nat)(rl:List Rl)(l:List Pc)(w h:Nat):Prop:=∃tg MB p rv qs pv cv,LvS W LB B tg DB MB p M nx c r rl rv qs pv w h cv/\qs.map dm.pc=l
theorem H6.below {W w':ag}{LB B DB:Nat}{M:Dm}{nx c:Nat}{r:Int->Nat}{rl:List Rl}{l:List Pc}{w h:Nat}(hl:H6 W LB B DB M nx c r rl l w h)(hb:Below W.heap.size W w'):H6 w' LB B DB M nx c r rl l w h:=by
 obtain⟨tg,MB,p,rv,qs,pv,cv,h1,h2⟩:=hl;exact⟨tg,MB,p,rv,qs,pv,cv,h1.below hb,h2⟩
theorem H6.base {W:ag}{LB B DB:Nat}{M:Dm}{nx c:Nat}{r:Int->Nat}{rl:List Rl}{l:List Pc}{w h:Nat}(hl:H6 W LB B DB M nx c r rl l w h):B<=LB/\B<=DB/\B<=W.heap.size:=by
 obtain⟨tg,MB,p,rv,qs,pv,cv,h1,h2⟩:=hl;exact⟨h1.base,(h1.ds.w.low _ _ h1.ds.w.jr).1,h1.ds.low⟩
theorem H6.Uo {W:ag}{LB B DB:Nat}{M:Dm}{nx c:Nat}{r:Int->Nat}{rl:List Rl}{l:List Pc}{w h:Nat}(hl:H6 W LB B DB M nx c r rl l w h)(hw1:1<=w)(hw:w<=40)(Ac:1<=h)(hh:h<=40):
  ax 10 #[ay LB] W fun e w'=>∃g cp,e=.returned (.agg #[aa w,aa h,.slice (some ⟨g,0,none⟩) (w*h) cp])/\w'.ownsRow W.heap.size 9 1 (.slice (some ⟨g,0,none⟩) (w*h) cp) (w*h) ((jD aI (l.map fK) w h).map .string)/\Below W.heap.size W w':=by
 obtain⟨tg,MB,p,rv,qs,pv,cv,h1,rfl⟩:=hl;exact KZ h1 hw1 hw Ac hh
theorem a2t (E:Nat->Addr)(n:Nd)(c0 c1 c2:ah)(W:ag)(w h:Nat)(hE:LE E W)(hn:jX W c0 c1 c2 n)(hs:gu n<=1000000)(hw1:1<=w)(hw:w<=40)(Ac:1<=h)(hh:h<=40):
  ax 9 #[.agg #[c0,c1,c2],.string ⟨#[]⟩,aa w,aa h] W fun e w'=>Below W.heap.size W w'/\((¬((iT n 1 0).1=0/\yZ (jV n) [])/\∃t u,e=.returned (.tuple #[.pointer none,.iface t u]))\/∃LB DB l,(iT n 1 0).1=0/\eF (jV n) []=.ok l/\e=.returned (.tuple #[ay LB,.nilIface])/\H6 w' LB W.heap.size DB (jV n) (gu n) (gu n) (Um n) [] l w h):=(Y4 E n c0 c1 c2 W w h hE hn hs hw1 hw Ac hh).mono fun e w' ⟨h1,h2⟩=>⟨h1,by
 rcases h2 with h2|⟨h2, -,LB,tg,DB,MB,p,rv,qs,pv,cv,h4,h5⟩
 ·exact .inl h2
 ·exact .inr ⟨LB,DB,qs.map dm.pc,h2,h5.pm,h4,tg,MB,p,rv,qs,pv,cv,h5,rfl⟩⟩
theorem adK {E:Nat->Addr}{W:ag}{LB B DB:Nat}{M:Dm}{nx c:Nat}{r:Int->Nat}{l:List Pc}{w h:Nat}(hE:LE E W)(hl:H6 W LB B DB M nx c r [] l w h)(hw1:1<=w)(hw:w<=40)(Ac:1<=h)(hh:h<=40)(x:Ed)(hx:x.kd≠dM)(a:Except Nat Dm)
  (hAp:∀N V kJ lW pM p1,W.heap.size<=N->Below W.heap.size W V->bY M->dN N kJ V lW pM p1 M nx c r->ax 29 #[ay lW,.agg (iF x)] V fun e w'=>Below N V w'/\(((∃k,a=.error k)/\∃t u,e=.returned (.iface t u))\/(e=.returned .nilIface/\∃jM p2 M2 gQ c2 r2,(a=.ok M2/\gQ=nx/\c2=c/\r2=r)/\bY M2/\dN N jM w' lW pM p2 M2 gQ c2 r2))):
  ax 11 #[ay LB,.agg (iF x)] W fun e w'=>(((∃k,a=.error k)\/∃M2,a=.ok M2/\¬yZ M2 [])/\(∃t u,e=.returned (.tuple #[.slice none 0 0,.iface t u]))/\Below W.heap.size W w'/\H6 w' LB B DB M nx c r [] l w h)\/
   ∃M2 l2 o n cp,a=.ok M2/\eF M2 []=.ok l2/\e=.returned (.tuple #[.slice o n cp,.nilIface])/\w'.ownsRow W.heap.size 3 1 (.slice o n cp) (jS l l2 h).length (bD ((jS l l2 h).map fun(y:Nat)=>(y:Int)))/\K2 LB DB W w'/\H6 w' LB B DB M2 nx c r [] l2 w h:=by
 obtain⟨tg,MB,p,rv,qs,pv,cv,hl,hq⟩:=hl;obtain⟨Lv,Lx,N7⟩:=aH hl.row;subst N7;refine(O0 hE hl hw1 hw Ac hh x (∃k,a=.error k) False (fun M2 gQ c2 r2=>a=.ok M2/\gQ=nx/\c2=c/\r2=r) [] (fun y hy=>(by cases hy)) (fun N V kJ lW pM p1 h1 h2 h3=>hAp N V kJ lW pM p1 h1 h2 hl.ok h3) (fun V hV=>(Ck x hx _ _ _ V).mono fun e w' ⟨h1,h2⟩=>⟨h2,.inr ⟨_,_,_,h1,aP hl.row (hV.trans (h2.mono hV.size))⟩⟩)).mono fun e w' hr=>?_;rcases hr with⟨h1,h2,h3,h4⟩|⟨jM,MB2,p2,M2,gQ,c2,r2,rv2,pK,pv2,cv2,o,n,cp,⟨h1,rfl,rfl,rfl⟩,h2,h3,h4,h5,h6⟩
 ·refine .inl ⟨?_,h1,h2,tg,MB,p,_,qs,pv,cv,h3,hq⟩;rcases h4 with h4|h4|⟨M2,_,_,_,⟨h5, -⟩,h6⟩
  ·exact .inl h4
  ·exact h4.elim
  ·exact .inr ⟨M2,h5,h6⟩
 ·subst hq;exact .inr ⟨M2,pK.map dm.pc,o,n,cp,h1,h6.pm,h4,by simpa using h5,h3,jM,MB2,p2,rv2,pK,pv2,cv2,h6,rfl⟩
end
section
open Go.RowKit
set_option maxRecDepth 20000
def Fa (W:ag)(LB B DB K:Nat)(l:List Pc):Prop:=∃M nx c r rl,nx<=K/\H6 W LB B DB M nx c r rl l 9 8
structure RbR (x:Ed)(rl rl':List Rl)(RE:Prop)(E:Nat->Addr):Prop where
 ok:∀y∈rl',YI y
 rb:∀(V:ag) (B:Nat) (rv:ah),LE E V->CG V->V.ownsRow B 110 3 rv rl.length (dZ rl)->B<=V.heap.size->ax 30 #[rv,.agg (iF x)] V fun e w'=>Below V.heap.size V w'/\((RE/\∃u t y,e=.returned (.tuple #[u,.iface t y]))\/∃o n cp,e=.returned (.tuple #[.slice o n cp,.nilIface])/\w'.ownsRow B 110 3 (.slice o n cp) rl'.length (dZ rl'))
section
variable {E:Nat->Addr}
theorem Qu {x:Ed}(hx:x.kd≠dM){rl:List Rl}(hok:∀y∈rl,YI y):RbR x rl rl False E:=⟨hok,fun V B rv _ _ ho _=>by
 obtain⟨o,cp,rfl⟩:=aH ho;exact(Ck x hx _ _ _ V).mono fun e w' ⟨h1,h2⟩=>⟨h2,.inr ⟨_,_,_,h1,aP ho h2⟩⟩⟩
theorem Ua {w:ag}{B B' k n:Nat}{e:TypeId}{v:ah}{xs:List ah}(h:w.ownsRow B e k v n xs)(hb:B'<=B):w.ownsRow B' e k v n xs:=by
 obtain⟨h1,h2⟩:=h;refine⟨h1,?_⟩;rcases h2 with h2|⟨g,cap,cur,h3,h4,h5⟩
 ·exact .inl h2
 ·exact .inr ⟨g,cap,cur,h3,Nat.le_trans hb h4,h5⟩
theorem Qv (x:Ed)(hx:x.kd=dM)(rv:ah)(V:ag)(Q:ah->ah->ag->Prop)(h:ax 24 #[.string ⟨x.vl.toArray⟩] (V.alloc (.cells (iF x) 45)) fun e w'=>∃v u,e=.returned (.tuple #[v,u])/\Q v u w'):
  ax 30 #[rv,.agg (iF x)] V fun e w'=>∃v u,e=.returned (.tuple #[v,u])/\Q v u w':=by
 obtain⟨kd,n,m,ea,nm,vl⟩:=x;have hx:kd=dM:=hx;subst hx;obtain⟨c0,c1,c2,c3,c4,c5⟩:=NZ.of (cZ V (iF ⟨dM,n,m,ea,nm,vl⟩) 45);unfold dM at*;go_enter func30,ntmps30;go_wp2_with(go_at_call 24;refine h.mono ?_;rintro e w1 ⟨v,u,rfl,hr⟩)
 go_ret2
 exact⟨v,u,rfl,hr⟩
def rl0:Rl:=⟨[97],[102,105,108,108],[120]⟩
theorem a4W:Da rl0:=⟨by kernel_rfl,by kernel_rfl,by kernel_rfl,by decide⟩
def Qw:List Rl:=List.replicate (maxLen+1) rl0
theorem Yj (h:Qw.length<=maxLen):False:=by
 unfold Qw at h;rw[List.length_replicate] at h;omega
theorem Yk {x:Ed}(hx:x.kd=dM)(hvl:x.vl.length<=10000):(∃l,∀rl,RbR x rl l False E)\/∀rl,RbR x rl Qw True E:=by
 have RD:∀(V:ag),LE E V->CG V->ax 24 #[.string ⟨x.vl.toArray⟩] (V.alloc (.cells (iF x) 45)) fun e w'=>∃v u,e=.returned (.tuple #[v,u])/\ShR (E 1) (E 7) (V.alloc (.cells (iF x) 45)).heap.size (wN x.vl) (.returned (.tuple #[v,u])) w'/\Below V.heap.size V w':=fun V hE hm=>by
  have b0:=di V (.cells (iF x) 45);refine(Sg x.vl hvl _ (E 1) (E 7) (hE.below b0).ne.c1 (hE.below b0).de.c7 (hm.below b0)).mono fun e w' ⟨h1,h2⟩=>?_;obtain⟨v,u,rfl⟩:∃v u,e=.returned (.tuple #[v,u]):=by
   cases hs:wN x.vl with
   |error k=>rw[hs] at h1;obtain⟨pb,h, -⟩:=h1;exact⟨_,_,h⟩
   |ok l=>
    rw[hs] at h1;rcases h1 with⟨-,h⟩|⟨-,v,h, -⟩
    ·exact⟨_,_,h⟩
    ·exact⟨_,_,h⟩
  exact⟨v,u,rfl,h1,aG b0 h2⟩
 have er:(∀V v u (w':ag),ShR (E 1) (E 7) (World.alloc V (.cells (iF x) 45)).heap.size (wN x.vl) (.returned (.tuple #[v,u])) w'->∃t y,u=.iface t y)->∀rl,RbR x rl Qw True E:=fun hh rl=>⟨fun y hy=>(by rw[List.eq_of_mem_replicate hy];exact rlG a4W),fun V B rv hE hm _ _=>(Qv x hx rv V _ (RD V hE hm)).mono fun e w' ⟨v,u,h1,h2,h3⟩=>by
  obtain⟨t,y,rfl⟩:=hh V v u w' h2;exact⟨h3,.inl ⟨trivial,v,t,y,h1⟩⟩⟩
 cases hs:wN x.vl with
 |error k=>
  rw[hs] at er;exact .inr (er fun V v u w' hr=>by obtain⟨pb,h, -⟩:=hr;cases h;exact⟨_,_,rfl⟩)
 |ok l=>
  by_cases h40:40<l.length
  ·rw[hs] at er;exact .inr (er fun V v u w' hr=>by
    rcases hr with⟨-,h⟩|⟨h, -⟩
    ·cases h;exact⟨_,_,rfl⟩
    ·omega)
  ·refine .inl ⟨l,fun rl=>⟨fun y hy=>rlG (UZ _ _ _ _ (by omega) (fun _ h=>by cases h) hs y hy),fun V B rv hE hm _ hB=>(Qv x hx rv V _ (RD V hE hm)).mono fun e w' ⟨v,u,h1,h2,h3⟩=>?_⟩⟩;rw[hs] at h2;rcases h2 with⟨h, -⟩|⟨-,v',h,h5⟩
   ·omega
   ·cases h;obtain⟨o,cp,rfl⟩:=aH h5;exact⟨h3,.inr ⟨_,_,_,h1,Ua h5 (by rw[World.size_alloc];omega)⟩⟩
def DoG (E:Nat->Addr)(x:Ed)(W:ag)(LB B DB K:Nat)(l:List Pc)(v u:ah)(w':ag):Prop:=(v=.slice none 0 0/\(∃t y,u=.iface t y)/\Below W.heap.size W w'/\Fa w' LB B DB K l)\/
 ∃l2 o cp,v=.slice o (jS l l2 8).length cp/\u=.nilIface/\w'.ownsRow W.heap.size 3 1 (.slice o (jS l l2 8).length cp) (jS l l2 8).length (bD ((jS l l2 8).map fun(y:Nat)=>(y:Int)))/\K2 LB DB W w'/\Fa w' LB B DB (K+1) l2/\
  ((x.kd=mJ\/x.kd=dY\/x.kd=dM)->∀X,Below w'.heap.size w' X->LE E X->CG X->ax 11 #[ay LB,.agg (iF x)] X fun e w2=>∃o cp,e=.returned (.tuple #[.slice o 0 cp,.nilIface])/\K2 LB DB X w2/\Fa w2 LB B DB (K+1) l2)
theorem Od {W:ag}{LB B DB K:Nat}{M:Dm}{nx c:Nat}{r:Int->Nat}{rl rl':List Rl}{RE:Prop}{l:List Pc}(hE:LE E W)(hm:CG W)(hl:H6 W LB B DB M nx c r rl l 9 8)(hK:nx<=K)(x:Ed)(hr:RbR x rl rl' RE E)(hr2:rl'.length<=maxLen->(x.kd=mJ\/x.kd=dY\/x.kd=dM)->RbR x rl' rl' False E)
  (hAp:∀N V kJ lW pM p1,W.heap.size<=N->Below W.heap.size W V->bY M->dN N kJ V lW pM p1 M nx c r->ax 29 #[ay lW,.agg (iF x)] V fun e w'=>Below N V w'/\((True/\∃t u,e=.returned (.iface t u))\/(e=.returned .nilIface/\∃jM p2 M2 gQ c2 r2,(gQ<=nx+1/\((x.kd=mJ\/x.kd=dY\/x.kd=dM)->Ag E x M2 gQ c2 r2))/\bY M2/\dN N jM w' lW pM p2 M2 gQ c2 r2))):
  ax 11 #[ay LB,.agg (iF x)] W fun e w'=>∃v u,e=.returned (.tuple #[v,u])/\DoG E x W LB B DB K l v u w':=by
 obtain⟨tg,MB,p,rv,qs,pv,cv,hl,rfl⟩:=hl;refine(O0 hE hl (by decide) (by decide) (by decide) (by decide) x True RE (fun M2 gQ c2 r2=>gQ<=nx+1/\((x.kd=mJ\/x.kd=dY\/x.kd=dM)->Ag E x M2 gQ c2 r2)) rl' hr.ok (fun N V kJ lW pM p1 h1 h2 h3=>hAp N V kJ lW pM p1 h1 h2 hl.ok h3) (fun V hV=>hr.rb V B rv (hE.below hV) (hm.below hV) (aP hl.row hV) (Nat.le_trans hl.ds.low hV.size))).mono fun e w' hq=>?_;rcases hq with⟨⟨t,u,h1⟩,h2,h3, -⟩|⟨jM,MB2,p2,M2,gQ,c2,r2,rv2,pK,pv2,cv2,o,n,cp,⟨k1,k2⟩,h2,h3,h4,h5,h6⟩
 ·exact⟨_,_,h1,.inl ⟨rfl,⟨t,u,rfl⟩,h2,M,nx,c,r,rl,hK,tg,MB,p,_,qs,pv,cv,h3,rfl⟩⟩
 ·have h5':w'.ownsRow W.heap.size 3 1 (.slice o n cp) (jS (qs.map dm.pc) (pK.map dm.pc) 8).length (bD ((jS (qs.map dm.pc) (pK.map dm.pc) 8).map fun(y:Nat)=>(y:Int))):=by simpa using h5
  obtain⟨o',cp',hv⟩:=aH h5';cases hv;refine⟨_,_,h4,.inr ⟨pK.map dm.pc,_,_,rfl,rfl,h5',h3,⟨M2,gQ,c2,r2,rl',by omega,jM,MB2,p2,rv2,pK,pv2,cv2,h6,rfl⟩,fun hk X hX hEX hmX=>?_⟩⟩;have h6X:=h6.below hX;have hle:rl'.length<=maxLen:=by obtain⟨o9,c9,h9,q9,q10, -⟩:=bS h6.row;omega
  refine(O0 hEX h6X (by decide) (by decide) (by decide) (by decide) x False False (fun M3 nx3 c3 r3=>M3=M2/\nx3=gQ) rl' hr.ok (fun N V kJ lW pM p1 q1 q2 q3=>(k2 hk N kJ V lW pM p1 (hEX.below q2) h6.ok q3).mono fun e w2 ⟨j1,j2,tg3,p3,j3⟩=>⟨j1,.inr ⟨j2,tg3,p3,M2,gQ,c2,r2,⟨rfl,rfl⟩,h6.ok,j3⟩⟩) (fun V hV=>(hr2 hle hk).rb V B rv2 (hEX.below hV) (hmX.below hV) (aP h6X.row hV) (Nat.le_trans h6X.ds.low hV.size))).mono fun e w2 hq=>?_;rcases hq with⟨-, -, -,hf⟩|⟨tg4,MB4,p4,M4,nx4,c4,r4,rv4,qs4,pv4,cv4,o4,n4,cp4,⟨rfl,rfl⟩,g2,g3,g4,g5,g6⟩
  ·exfalso;rcases hf with hf|hf|⟨M3,_,_,_,⟨rfl, -⟩,hf⟩
   ·exact hf
   ·exact hf
   ·exact hf h2
  ·have hpe:qs4.map dm.pc=pK.map dm.pc:=Except.ok.inj (g6.pm.symm.trans h6.pm);have hz:KQ pK qs4 8=[]:=by unfold KQ;rw[hpe,XA];rfl
   rw[hz] at g5;obtain⟨o',cp',hv⟩:=aH g5;cases hv;exact⟨_,_,g4,g3,M4,nx4,c4,r4,rl',by omega,tg4,MB4,p4,rv4,qs4,pv4,cv4,g6,hpe⟩
theorem adN {W:ag}{LB B DB K:Nat}{l:List Pc}(hE:LE E W)(hm:CG W)(hl:Fa W LB B DB K l)(hK:K<1000000)(x:Ed)(hw:bA x.n/\bA x.m)(hs:shE x):
  ax 11 #[ay LB,.agg (iF x)] W fun e w'=>∃v u,e=.returned (.tuple #[v,u])/\DoG E x W LB B DB K l v u w':=by
 obtain⟨M,nx,c,r,rl,hk,hl⟩:=hl;have hs1:=hs.1;have hs2:=hs.2;have Y6:∀y∈rl,YI y:=by
  obtain⟨tg,MB,p,rv,qs,pv,cv,h1, -⟩:=hl;exact h1.rok
 by_cases hx:x.kd=dM
 ·have AP:∀N V kJ lW pM p1,W.heap.size<=N->Below W.heap.size W V->bY M->dN N kJ V lW pM p1 M nx c r->ax 29 #[ay lW,.agg (iF x)] V fun e w'=>Below N V w'/\((True/\∃t u,e=.returned (.iface t u))\/(e=.returned .nilIface/\∃jM p2 M2 gQ c2 r2,(gQ<=nx+1/\((x.kd=mJ\/x.kd=dY\/x.kd=dM)->Ag E x M2 gQ c2 r2))/\bY M2/\dN N jM w' lW pM p2 M2 gQ c2 r2)):=fun N V kJ lW pM p1 _ h2 h3 h4=>by
   obtain⟨kd,n,m,ea,nm,v⟩:=x;have hx:kd=dM:=hx;subst hx;exact(La n m ea nm v N kJ V lW pM p1 (hE.below h2) h3 h4).mono fun e w' ⟨k1,k2,jM,p2,k3⟩=>⟨k1,.inr ⟨k2,jM,p2,M,nx,c,r,⟨Nat.le_succ _,fun _=>La n m ea nm v⟩,h3,k3⟩⟩
  rcases Yk (E:=E) hx (by omega) with⟨l',hr⟩|hr
  ·exact Od hE hm hl hk x (hr rl) (fun _ _=>hr l') AP
  ·exact Od hE hm hl hk x (hr rl) (fun h=>(Yj h).elim) AP
 ·refine Od hE hm hl hk x (Qu hx Y6) (fun _ _=>Qu hx Y6) fun N V kJ lW pM p1 _ h2 h3 h4=>?_;obtain⟨kd,n,m,ea,nm,v⟩:=x;have hs1:nm.length<=60:=hs1;have hs2:v.length<=300:=hs2;by_cases h5:kd=mJ
  ·subst h5;exact(rG (hE.below h2) h4 h3 n m ea hw.1 nm v (by omega) (by omega)).mono fun e w' ⟨k1,k2⟩=>by
    rcases k2 with⟨-,t,u,k2⟩|⟨k2,jM,p2,M2,gQ,c2,r2,⟨k3,rfl,rfl,rfl⟩,k4,k5⟩
    ·exact⟨k1,.inl ⟨trivial,t,u,k2⟩⟩
    ·exact⟨k1,.inr ⟨k2,jM,p2,M2,_,_,_,⟨Nat.le_succ _,fun _=>a4H hw.1 (by omega) (by omega) k3⟩,k4,k5⟩⟩
  by_cases h6:kd=dY
  ·subst h6;have b0:=di V (.cells (iF ⟨dY,n,m,ea,nm,v⟩) 45);have hd1:=h4.below b0;refine(L9 n m ea nm v _ ((JZ ((hE.below h2).below b0).de hd1 n m ea hw.1 hw.2).mono (R':=fun e w'=>∃u,e=.returned u/\(Below N V w'/\((∃t y,u=.iface t y)\/(u=.nilIface/\∃jM p2 M2 gQ c2 r2,(gQ<=nx+1/\Ag E ⟨dY,n,m,ea,nm,v⟩ M2 gQ c2 r2)/\bY M2/\dN N jM w' lW pM p2 M2 gQ c2 r2)))) fun e w' hr=>?_)).mono fun e w' ⟨u,k1,k2,k3⟩=>⟨k2,?_⟩
   ·rcases hr with⟨k, -, -,k1,k2⟩|⟨k1,k,y,o,q0,q,rfl,hm2⟩
    ·exact⟨_,k1,(b0.mono h4.low).trans (k2.mono hd1.low),.inl ⟨_,_,rfl⟩⟩
    ·obtain⟨gF,r', -,hd⟩:=hm2.doc;exact⟨_,k1,(b0.mono h4.low).trans (hm2.kt.below (fun b t hb=>(hd1.w.low b t hb).1) hd1.low),.inr ⟨rfl,gF,p1,_,nx,c,r',⟨Nat.le_succ _,a4J hm2 hd1 hd.d⟩,h3.mov hm2.hn hm2.ho hm2.hq,hd⟩⟩
   ·rcases k3 with⟨t,y,rfl⟩|⟨rfl,jM,p2,M2,gQ,c2,r2,⟨k4,k5⟩,k6,k7⟩
    ·exact .inl ⟨trivial,t,y,k1⟩
    ·exact .inr ⟨k1,jM,p2,M2,gQ,c2,r2,⟨k4,fun _=>k5⟩,k6,k7⟩
  ·exact(TS (hE.below h2) h4 h3 ⟨kd,n,m,ea,nm,v⟩ hx hw.1 hw.2 (by omega) (by omega) (by omega)).mono fun e w' ⟨u,k1,k2,k3⟩=>⟨k3,by
    rcases k2 with⟨t,y,rfl⟩|⟨rfl,jM,p2,M2,gQ,c2,r2,k4,k5,k6⟩
    ·exact .inl ⟨trivial,t,y,k1⟩
    ·refine .inr ⟨k1,jM,p2,M2,gQ,c2,r2,⟨k4,fun hh=>?_⟩,k5,k6⟩;rcases hh with hh|hh|hh
     ·exact absurd hh h5
     ·exact absurd hh h6
     ·exact absurd hh hx⟩
end
end
end Go.Proofs.YtjfiehbcamfdfaaGreatDoor

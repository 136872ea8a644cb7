/-
  Parts of the proof.
-/
import Derived.Test.YtjfiehbcamfdfaaGreatDoorQx12
import Derived.Test.YtjfiehbcamfdfaaGreatDoorQx36
namespace Go.Proofs.YtjfiehbcamfdfaaGreatDoor
open Go.Proofs.Tryz
section
open Go.RowKit
def xH (Q:Nat->Prop)(w:World)(v:Value)(ats:List (Bs×Bs)):Prop:=∃o cap,v=.slice o ats.length cap/\ats.length<=cap/\cap<=maxLen/\(o=none->cap=0)/\∀i x,ats[i]? =some x->∃b off,Q b/\o=some ⟨b,off,none⟩/\w.cell? (ag b (off+i*2))=some (eD x.1)/\w.cell? (ag b (off+i*2+1))=some (eD x.2)/\x.1.length<=maxLen/\x.2.length<=maxLen
mutual
def mY (Q:Nat->Prop)(w:World)(c0 c1 c2:Value):Nd->Prop
 | .mk nm ats ks=>c0=eD nm/\nm.length<=maxLen/\xH Q w c1 ats/\∃o cap,c2=.slice o ks.length cap/\ks.length<=cap/\cap<=maxLen/\(o=none->cap=0)/\qm Q w o 0 ks
def qm (Q:Nat->Prop)(w:World)(o:Option Addr)(i:Nat):List Nd->Prop
 |[]=>True
 |k::l=>(∃b off c0 c1 c2,Q b/\o=some ⟨b,off,none⟩/\w.cell? (ag b (off+i*3))=some c0/\w.cell? (ag b (off+i*3+1))=some c1/\w.cell? (ag b (off+i*3+2))=some c2/\mY Q w c0 c1 c2 k)/\qm Q w o (i+1) l
end
theorem xH.ats {Q:Nat->Prop}{w:World}{v:Value}{ats:List (Bs×Bs)}(h:xH Q w v ats):kg w v ats:=by
 obtain⟨o,cap,h1,h2,h3,h4,h5⟩:=h;refine⟨o,cap,h1,h2,h3,h4,fun i x hx=>?_⟩;obtain⟨b,off, -,h6⟩:=h5 i x hx;exact⟨b,off,h6⟩
mutual
theorem mY.nd {Q:Nat->Prop}{w:World}:∀{c0 c1 c2:Value} (n:Nd),mY Q w c0 c1 c2 n->jR w c0 c1 c2 n
 |_,_,_,.mk _ _ ks,h=>by
  unfold mY at h;unfold jR;obtain⟨h1,h2,h3,o,cap,h4,h5,h6,h8,h7⟩:=h;exact⟨h1,h2,h3.ats,o,cap,h4,h5,h6,h8,qm.kds ks h7⟩
theorem qm.kds {Q:Nat->Prop}{w:World}:∀{o:Option Addr} {i:Nat} (l:List Nd),qm Q w o i l->fE w o i l
 |_,_,[],_=>by unfold fE;trivial
 |_,_,k::l,h=>by
  unfold qm at h;unfold fE;obtain⟨⟨b,off,c0,c1,c2, -,h1,h2,h3,h4,h5⟩,h6⟩:=h;exact⟨⟨b,off,c0,c1,c2,h1,h2,h3,h4,mY.nd k h5⟩,qm.kds l h6⟩
end
def SX (Q Q':Nat->Prop)(w w':World):Prop:=∀b,Q b->b<w.heap.size->Q' b/\w'.heap[b]? =w.heap[b]?
theorem SX.cell {Q Q':Nat->Prop}{w w':World}(h:SX Q Q' w w'){b i:Nat}{v:Value}(hq:Q b)(hc:w.cell? (ag b i)=some v):w'.cell? (ag b i)=some v:=by
 rw[World.cell?_of_block (h b hq (ax hc)).2];exact hc
theorem xH.turn {Q Q':Nat->Prop}{w w':World}{v:Value}{ats:List (Bs×Bs)}(h:xH Q w v ats)(t:SX Q Q' w w'):xH Q' w' v ats:=by
 obtain⟨o,cap,h1,h2,h3,h4,h5⟩:=h;refine⟨o,cap,h1,h2,h3,h4,fun i x hx=>?_⟩;obtain⟨b,off,hq,h6,h7,h8,h9⟩:=h5 i x hx;exact⟨b,off,(t b hq (ax h7)).1,h6,t.cell hq h7,t.cell hq h8,h9⟩
mutual
theorem mY.turn {Q Q':Nat->Prop}{w w':World}(t:SX Q Q' w w'):∀{c0 c1 c2:Value} (n:Nd),mY Q w c0 c1 c2 n->mY Q' w' c0 c1 c2 n
 |_,_,_,.mk _ _ ks,h=>by
  unfold mY at h⊢;obtain⟨h1,h2,h3,o,cap,h4,h5,h6,h8,h7⟩:=h;exact⟨h1,h2,h3.turn t,o,cap,h4,h5,h6,h8,qm.turn t ks h7⟩
theorem qm.turn {Q Q':Nat->Prop}{w w':World}(t:SX Q Q' w w'):∀{o:Option Addr} {i:Nat} (l:List Nd),qm Q w o i l->qm Q' w' o i l
 |_,_,[],_=>by unfold qm;trivial
 |_,_,k::l,h=>by
  unfold qm at h⊢;obtain⟨⟨b,off,c0,c1,c2,hq,h1,h2,h3,h4,h5⟩,h6⟩:=h;exact⟨⟨b,off,c0,c1,c2,(t b hq (ax h2)).1,h1,t.cell hq h2,t.cell hq h3,t.cell hq h4,mY.turn t k h5⟩,qm.turn t l h6⟩
end
theorem xH.XA {w:World}{B:Nat}{v:Value}{ats:List (Bs×Bs)}(h:w.ownsRow B 65 2 v ats.length (aF ats))(hl:∀x∈ats,x.1.length<=maxLen/\x.2.length<=maxLen):xH (fun b=>v.ownBlock=some b) w v ats:=by
 obtain⟨o,cap,h1,h2,h3,h4,h5⟩:=bA h;refine⟨o,cap,h1,h2,h3,h4,fun i x hx=>?_⟩;obtain⟨c0,c1⟩:=uu ats i x hx;obtain⟨g,hg,e0⟩:=bJ h _ _ c0;obtain⟨g',hg',e1⟩:=bJ h _ _ c1;obtain rfl:g=g':=by rw[hg] at hg';cases hg';rfl
 exact⟨g,0,hg,h5 g hg,by rw[Nat.zero_add];exact e0,by rw[Nat.zero_add];exact e1,hl x (List.mem_of_getElem? hx)⟩
abbrev V3:=Value×Value×Value
def cZ:List V3->List Value
 |[]=>[]
 |x::r=>[x.1,x.2.1,x.2.2]++cZ r
theorem tK:∀a c:List V3,cZ (a++c)=cZ a++cZ c
 |[],_=>rfl
 |x::a,c=>by simp[cZ,tK a c]
theorem yA (a:List V3)(x:V3):cZ (a++[x])=cZ a++[x.1,x.2.1,x.2.2]:=by rw[tK];simp[cZ]
theorem Ci:∀(M:List V3) (i:Nat) (x:V3),M[i]? =some x->(cZ M)[i*3]? =some x.1/\(cZ M)[i*3+1]? =some x.2.1/\(cZ M)[i*3+2]? =some x.2.2
 |[],i,x,h=>by simp at h
 |y::r,0,x,h=>by
  simp at h;subst h;exact⟨rfl,rfl,rfl⟩
 |y::r,i+1,x,h=>by
  have:=Ci r i x (by simpa using h);rw[show(i+1)*3=i*3+1+1+1 from by omega,show i*3+1+1+1+1=(i*3+1)+1+1+1 from rfl,show i*3+1+1+1+2=(i*3+2)+1+1+1 from rfl];simp only[cZ,List.cons_append,List.nil_append,List.getElem?_cons_succ];exact this
def KR (Q:Nat->Prop)(w:World):List V3->List Nd->Prop
 |[],[]=>True
 |x::r,n::l=>mY Q w x.1 x.2.1 x.2.2 n/\KR Q w r l
 |_,_=>False
theorem KR.len {Q:Nat->Prop}{w:World}:∀{a:List V3} {l:List Nd},KR Q w a l->a.length=l.length
 |[],[],_=>rfl
 |_::_,_::_,h=>by simp[KR.len h.2]
 |[],_::_,h=>h.elim
 |_::_,[],h=>h.elim
theorem KR.turn {Q Q':Nat->Prop}{w w':World}(t:SX Q Q' w w'):∀{a:List V3} {l:List Nd},KR Q w a l->KR Q' w' a l
 |[],[],_=>trivial
 |_::_,_::_,h=>⟨mY.turn t _ h.1,KR.turn t h.2⟩
 |[],_::_,h=>h.elim
 |_::_,[],h=>h.elim
theorem KR.snoc {Q:Nat->Prop}{w:World}:∀{a:List V3} {l:List Nd} {x:V3} {n:Nd},KR Q w a l->mY Q w x.1 x.2.1 x.2.2 n->KR Q w (a++[x]) (l++[n])
 |[],[],_,_,_,h=>⟨h,trivial⟩
 |_::_,_::_,_,_,h,k=>⟨h.1,KR.snoc h.2 k⟩
 |[],_::_,_,_,h,_=>h.elim
 |_::_,[],_,_,h,_=>h.elim
theorem KR.get {Q:Nat->Prop}{w:World}:∀{a:List V3} {l:List Nd} {i:Nat} {n:Nd},KR Q w a l->l[i]? =some n->∃x,a[i]? =some x/\mY Q w x.1 x.2.1 x.2.2 n
 |[],[],_,_,_,h=>by simp at h
 |x::_,_::_,0,_,h,hx=>by simp at hx;subst hx;exact⟨x,rfl,h.1⟩
 |_::r,_::l,i+1,n,h,hx=>by
  obtain⟨x,h1,h2⟩:=KR.get (a:=r) (l:=l) (i:=i) (n:=n) h.2 (by simpa using hx);exact⟨x,by simpa using h1,h2⟩
 |[],_::_,_,_,h,_=>h.elim
 |_::_,[],_,_,h,_=>h.elim
theorem PM {Q:Nat->Prop}{w:World}{o:Option Addr}:∀{l:List Nd} {i:Nat},(∀j k,l[j]? =some k->∃b off c0 c1 c2,Q b/\o=some ⟨b,off,none⟩/\w.cell? (ag b (off+(i+j)*3))=some c0/\w.cell? (ag b (off+(i+j)*3+1))=some c1/\w.cell? (ag b (off+(i+j)*3+2))=some c2/\mY Q w c0 c1 c2 k)->qm Q w o i l
 |[],_,_=>by unfold qm;trivial
 |k::l,i,h=>by
  unfold qm;refine⟨h 0 k rfl,PM fun j k' hk=>?_⟩;have:=h (j+1) k' (by simpa using hk);rw[show i+(j+1)=i+1+j from by omega] at this;exact this
theorem mY.make {Q:Nat->Prop}{w:World}{B:Nat}{nm:Bs}{cA vK:Value}{ats:List (Bs×Bs)}{K:List V3}{ks:List Nd}(hl:nm.length<=maxLen)(ha:xH Q w cA ats)(hk:w.ownsRow B 25 3 vK K.length (cZ K))(hr:KR Q w K ks)(hq:∀b,vK.ownBlock=some b->Q b):mY Q w (.string ⟨nm.toArray⟩) cA vK (.mk nm ats ks):=by
 unfold mY;have hlen:=hr.len;obtain⟨o,cap,h1,h2,h3,h4,h5⟩:=bA hk;refine⟨rfl,hl,ha,o,cap,by rw[<- hlen];exact h1,by omega,h3,h4,PM fun j k hj=>?_⟩;obtain⟨x,hx,hn⟩:=hr.get hj;obtain⟨c0,c1,c2⟩:=Ci K j x hx;obtain⟨g,hg,e0⟩:=bJ hk _ _ c0;obtain⟨g',hg',e1⟩:=bJ hk _ _ c1;obtain rfl:g=g':=by rw[hg] at hg';cases hg';rfl
 obtain⟨g',hg',e2⟩:=bJ hk _ _ c2;obtain rfl:g=g':=by rw[hg] at hg';cases hg';rfl
 rw[Nat.zero_add];exact⟨g,0,_,_,_,hq g hg,h5 g hg,by rw[Nat.zero_add];exact e0,by rw[Nat.zero_add];exact e1,by rw[Nat.zero_add];exact e2,hn⟩
structure aP (r n:Nat)(W w:World):Prop where
 os:w.os=W.os
 tape:w.tape=W.tape
 output:w.output=W.output
 size:W.heap.size<=w.heap.size
 block:∀k,k<W.heap.size->k≠r->k≠n->w.heap[k]? =W.heap[k]?
theorem aP.trans {r n:Nat}{A B C:World}(h:aP r n A B)(k:aP r n B C):aP r n A C:=
 ⟨k.os.trans h.os,k.tape.trans h.tape,k.output.trans h.output,Nat.le_trans h.size k.size,fun i hi h1 h2=>(k.block i (Nat.lt_of_lt_of_le hi h.size) h1 h2).trans (h.block i hi h1 h2)⟩
theorem aP.fe {r n:Nat}{A B:World}(h:aY r A B):aP r n A B:=⟨h.os,h.tape,h.output,h.size,fun i hi h1 _=>h.block i hi h1⟩
theorem aP.of_below {r n:Nat}{A B:World}(h:Below A.heap.size A B):aP r n A B:=⟨h.os,h.tape,h.output,h.size,fun i hi _ _=>h.block i hi⟩
theorem aP.sD {r n:Nat}(A:World)(i:Nat)(v:Value):aP r n A (A.setCell ⟨n,i,none⟩ v):=by
 have hs:=(Below.refl n A).setCell (p:=⟨n,i,none⟩) Nat.le.refl v;exact⟨hs.os,hs.tape,hs.output,hs.size,fun k _ _ hb=>Below.heap_setCell _ _ _ k hb⟩
theorem aP.keep {r n:Nat}{A B C:World}(h:aY r A B)(k:aP r n B C)(hn:A.heap.size<=n):aY r A C:=
 ⟨k.os.trans h.os,k.tape.trans h.tape,k.output.trans h.output,Nat.le_trans h.size k.size,fun i hi h1=>(k.block i (Nat.lt_of_lt_of_le hi h.size) h1 (by omega)).trans (h.block i hi h1)⟩
theorem aP.grown {r n:Nat}{A B C:World}{g:Option Nat}(h:aP r n A B)(k:B.grownBy C g)(hg:∀b,g=some b->A.heap.size<=b):aP r n A C:=
 ⟨k.os.trans h.os,k.tape.trans h.tape,k.output.trans h.output,Nat.le_trans h.size k.size,fun i hi h1 h2=>(k.block i (Nat.lt_of_lt_of_le hi h.size) (fun e=>by have:=hg i e.symm;omega)).trans (h.block i hi h1 h2)⟩
theorem aY.al {b:Nat}{A B:World}(h:aY b A B)(o:Obj):aY b A (B.alloc o):=h.trans (aY.of_below (aW B o))
def RD (R:Nat)(s:Bs)(w:World):Prop:=w.heap[R]? =some (.cells #[.string ⟨s.toArray⟩] 92)
theorem RD.cell {R:Nat}{s:Bs}{w:World}(h:RD R s w):w.cell? (ag R 0)=some (.string ⟨s.toArray⟩):=aA h 0 _ rfl
theorem RD.bf {R:Nat}{s:Bs}{w:World}(h:RD R s w):w.frozen? ⟨R,0,none⟩=false:=by
 unfold RD at h;unfold World.frozen?;rw[h];rfl
theorem RD.lt {R:Nat}{s:Bs}{w:World}(h:RD R s w):R<w.heap.size:=aD h
theorem RD.set {R:Nat}{s t:Bs}{w:World}(h:RD R s w):RD R t (w.setCell ⟨R,0,none⟩ (.string ⟨t.toArray⟩)):=by
 unfold RD at h⊢;rw[heap_setCell_same w R 0 _ _ _ h];rfl
theorem RD.al {R:Nat}{s:Bs}{w:World}(h:RD R s w)(o:Obj):RD R s (w.alloc o):=by
 have:=h.lt;unfold RD at h⊢;rw[<- h];exact(aW w o).block R this
end
section
open Go.RowKit
set_option maxHeartbeats 4000000
set_option maxRecDepth 20000
def a0J (wd s:Bs):Bs:=if wd.isPrefixOf s=true then s.drop wd.length else s
theorem r9 {wd s:Bs}(h:wd.isPrefixOf s=true):a0J wd s=s.drop wd.length:=if_pos h
theorem vZ {wd s:Bs}(h:wd.isPrefixOf s=false):a0J wd s=s:=if_neg (by rw[h];simp)
theorem Gu (s p:Bs)(w:World):ak 115 #[.string ⟨s.toArray⟩,.string ⟨p.toArray⟩] w fun e w'=>e=.returned (.tuple #[.string ⟨(a0J p s).toArray⟩,.bool (p.isPrefixOf s)])/\w'=w:=by
 have:=Tryz.strings_CutPrefix ⟨s.toArray⟩ ⟨p.toArray⟩ w;exact this
theorem iH (R:Nat)(s wd:Bs)(W:World)(h:RD R s W):ak 69 #[aj R,.string ⟨wd.toArray⟩] W fun e w'=>e=.returned (.bool (wd.isPrefixOf s))/\RD R (a0J wd s) w'/\aY R W w':=by
 have c:=h.cell;have f:=h.bf;go_enter func69,ntmps69;go_wp2_with(go_at_call 115;refine(Gu s wd _).mono ?_;rintro e w1 ⟨rfl,rfl⟩);go_ret;exact⟨rfl,h.set,(aY.of_below (Below.refl _ _)).setCell _⟩
theorem jG (ends:Bs)(W:World):ak 71 #[.string ⟨ends.toArray⟩] W fun e w'=>e=.returned (.func (.func 116) #[] #[aj W.heap.size])/\w'=W.alloc (.cells #[.string ⟨ends.toArray⟩] 9):=by
 go_enter func71,ntmps71;go_wp2;go_ret;exact⟨rfl,rfl⟩
def Lg (ends:Bs)(c:UInt8):Bool:=decide (Lib.indexByte ends c<0)
theorem XC (ends:Bs)(c:UInt8):Lg ends c= !(ends.any (fun b=>b==c)):=by
 unfold Lg
 induction ends with
 |nil=>rfl
 |cons b l ih=>
  have hr: -1<=Lib.indexByte l c:=by
   clear ih
   induction l with
   |nil=>exact Int.le_refl _
   |cons d l ih=>unfold Lib.indexByte;split;decide;split;decide;omega
  rw[List.any_cons];unfold Lib.indexByte;by_cases hb:(b==c)=true
  ·rw[if_pos hb,hb];rfl
  ·rw[if_neg hb,Bool.eq_false_iff.2 hb,Bool.false_or,<- ih];by_cases h1:(Lib.indexByte l c== -1)=true
   ·rw[if_pos h1,eq_of_beq h1]
   ·rw[if_neg h1];have:Lib.indexByte l c≠-1:=fun e=>h1 (by rw[e];rfl);rw[decide_eq_false (by omega),decide_eq_false (by omega)]
theorem a8B:Lg [32,61,34,60,62,47]=fun c=> !eB c:=by
 funext c;rw[XC];simp[eB,Bool.beq_comm,Bool.or_assoc]
theorem a8C:Lg [60,62,38,34]=fun c=> !mB c:=by
 funext c;rw[XC];simp[mB,Bool.beq_comm,Bool.or_assoc]
theorem Gv (ends:Bs)(c:UInt8)(w:World):ak 117 #[.string ⟨ends.toArray⟩,.int .u8 c.toNat] w fun e w'=>e=.returned (aa (Lib.indexByte ends c))/\w'=w:=by
 have:=Tryz.strings_IndexByte ⟨ends.toArray⟩ c.toNat w;rw[show((c.toNat:Int)).toNat.toUInt8=c from by simp] at this;exact this
theorem Kz (ends:Bs)(c:UInt8)(B:Nat)(W:World)(h:W.cell? (ag B 0)=some (.string ⟨ends.toArray⟩)):ak 116 #[.int .u8 c.toNat,aj B] W fun e w'=>e=.returned (.bool (Lg ends c))/\w'=W:=by
 go_enter func116,ntmps116;go_wp2_with(go_at_call 117;refine(Gv ends c _).mono ?_;rintro e w1 ⟨rfl,rfl⟩);go_ret;exact⟨rfl,rfl⟩
theorem PN {P:UInt8->Bool}{s:Bs}{i:Nat}(h:∀j c,j<i->s[j]? =some c->P c=true)(he:∀c,s[i]? =some c->P c=false):s.takeWhile P=s.take i/\s.dropWhile P=s.drop i:=by
 have h1:∀c∈s.take i,P c=true:=fun c hc=>by
  obtain⟨j,hj⟩:=List.mem_iff_getElem?.1 hc;rw[List.getElem?_take] at hj;split at hj
  ·exact h j c (by assumption) hj
  ·cases hj
 have h2:(s.drop i).takeWhile P=[]/\(s.drop i).dropWhile P=s.drop i:=by
  cases hd:s.drop i with
  |nil=>exact⟨rfl,rfl⟩
  |cons c r=>
   have:s[i]? =some c:=by have:=congrArg List.head? hd;simpa using this
   have:=he c this;exact⟨List.takeWhile_cons_of_neg (by simp[this]),List.dropWhile_cons_of_neg (by simp[this])⟩
 have e:s=s.take i++s.drop i:=(List.take_append_drop i s).symm;constructor
 ·conv=>lhs;rw[e]
  rw[List.takeWhile_append_of_pos h1,h2.1,List.append_nil]
 ·conv=>lhs;rw[e]
  rw[List.dropWhile_append_of_pos h1,h2.2]
theorem a4C (s:Bs)(i:Nat)(h:i<(⟨s.toArray⟩:ByteArray).size):s[i]? =some ((⟨s.toArray⟩:ByteArray)[i]):=by
 rw[<- Oy ⟨s.toArray⟩ i h];exact List.getElem?_eq_getElem _
theorem PR (s:Bs)(i:Nat):(⟨s.toArray⟩:ByteArray).extract 0 i=⟨(s.take i).toArray⟩:=by
 have h:=Lib.extract_data ⟨s.toArray⟩ 0 i;cases he:(⟨s.toArray⟩:ByteArray).extract 0 i with
 |mk d=>
  rw[he] at h;simp at h;rw[<- h]
theorem a0K (s:Bs)(i:Nat):(⟨s.toArray⟩:ByteArray).extract i s.length=⟨(s.drop i).toArray⟩:=by
 have h:=Lib.extract_to_end ⟨s.toArray⟩ i;rw[fD] at h;cases he:(⟨s.toArray⟩:ByteArray).extract i s.length with
 |mk d=>
  rw[he] at h;simp at h;rw[<- h]
theorem KF (R:Nat)(s ends:Bs)(B:Nat)(W:World)(h:RD R s W)(hB:W.heap[B]? =some (.cells #[.string ⟨ends.toArray⟩] 9))(hl:s.length<=100000):
  ak 70 #[aj R,.func (.func 116) #[] #[aj B]] W fun e w'=>e=.returned (.string ⟨(s.takeWhile (Lg ends)).toArray⟩)/\RD R (s.dropWhile (Lg ends)) w'/\aY R W w':=by
 have c:=h.cell;have f:=h.bf;have hb:=aA hB 0 _ rfl;have hsz:=fD s;have hl':(s.length:Int)<=100000:=by omega
 go_enter func70,ntmps70;go_wp2_with fail
 go_loopw [5] (fun y wr=>∃i:Nat,y=aa i/\i<=s.length/\(∀j c,j<i->s[j]? =some c->Lg ends c=true)/\wr=W) (fun y _=>s.length-(intOf y).toNat)
 case atStart=>exact⟨0,rfl,Nat.zero_le _,fun j _ h=>absurd h (Nat.not_lt_zero _),rfl⟩
 case round=>
  obtain⟨i,rfl,hi,hsm,rfl⟩:=hrel;have HS:Hid (∀j c,j<i->s[j]? =some c->Lg ends c=true):=hsm;clear hsm;by_cases hlt:i<s.length
  ·have hlt':(i:Int)<(s.length:Int):=by omega
   have hget:=a4C s i (by rw[hsz];exact hlt);have hlt2:i<(⟨s.toArray⟩:ByteArray).size:=by rw[hsz];exact hlt
   obtain⟨c1,hc1⟩:∃c1,(⟨s.toArray⟩:ByteArray)[i]=c1:=⟨_,rfl⟩;rw[hc1] at hget;cases hft:Lg ends c1 with
   |true=>
    have HN:Hid (∀j c,j<i+1->s[j]? =some c->Lg ends c=true):=(fun j c hj hc=>by
     by_cases e:j<i
     ·exact HS.out j c e hc
     ·obtain rfl:j=i:=by omega
      rw[hget] at hc;cases hc;exact hft:∀j c,j<i+1->s[j]? =some c->Lg ends c=true)
    have HF:=Kz ends c1 B wr hb;rw[hft] at HF;clear hget hft;go_wp2_with(go_at_call 116;refine HF.mono ?_;rintro e w1 ⟨rfl,rfl⟩)
    go_roundw
    case rel=>exact⟨i+1,by go_num,by omega,HN.out,trivial⟩
    case measure=>simp[intOf];omega
   |false=>
    have HT:Hid (s.takeWhile (Lg ends)=s.take i/\s.dropWhile (Lg ends)=s.drop i):=PN HS.out (fun c hc=>by rw[hget] at hc;cases hc;exact hft);have HF:=Kz ends c1 B wr hb;rw[hft] at HF;clear hget hft;go_wp2_with(go_at_call 116;refine HF.mono ?_;rintro e w1 ⟨rfl,rfl⟩);go_ret;refine⟨by rw[HT.out.1,<- PR];rfl,?_,(aY.of_below (Below.refl _ _)).setCell _⟩;have q:=RD.set (t:=s.drop i) h;rw[<- a0K] at q;rw[HT.out.2];exact q
  ·obtain rfl:i=s.length:=by omega
   have HT:Hid (s.takeWhile (Lg ends)=s.take s.length/\s.dropWhile (Lg ends)=s.drop s.length):=PN HS.out (fun c hc=>by rw[List.getElem?_eq_none Nat.le.refl] at hc;cases hc);go_wp2_with fail;go_ret;refine⟨by rw[HT.out.1,<- PR];rfl,?_,(aY.of_below (Below.refl _ _)).setCell _⟩;rw[HT.out.2,List.drop_length];exact RD.set (t:=[]) h
end
section
open Go.RowKit
set_option maxHeartbeats 4000000
set_option maxRecDepth 20000
theorem aY.grown {b:Nat}{A B:World}(h:aY b A B):A.grownBy B (some b):=⟨h.os,h.tape,h.output,h.size,fun k hk hne=>h.block k hk (fun e=>hne (by rw[e]))⟩
theorem aY.refl (b:Nat)(A:World):aY b A A:=aY.of_below (Below.refl _ _)
theorem aY.low {b:Nat}{A B C:World}(h:aY b A B)(k:Below A.heap.size B C):aY b A C:=⟨k.os.trans h.os,k.tape.trans h.tape,k.output.trans h.output,Nat.le_trans h.size k.size,fun i hi hb=>(k.block i hi).trans (h.block i hi hb)⟩
theorem Bd.keep {B b R:Nat}{l:Bs}{w w':World}(h:Bd B b l w)(k:aY R w w')(hR:R<B):Bd B b l w':=by
 have aux:∀p,Lib.BuilderAtF 99 5 B b p (Lib.byteCells l) w->Lib.BuilderAtF 99 5 B b p (Lib.byteCells l) w':=fun p ⟨hB,v,hb,ho,hne⟩=>
  ⟨hB,v,by rw[k.block b (aD hb) (by omega)];exact hb,ho.kept k.grown (.inr fun e=>by have:=(ho.lt R e).1;omega),hne⟩
 exact h.elim (fun x=>.inl (aux _ x)) (fun x=>.inr (aux _ x))
theorem aY.blk {b:Nat}{A B:World}(h:aY b A B){N:Nat}{o:Obj}(hN:A.heap[N]? =some o)(hne:N≠b):B.heap[N]? =some o:=by
 rw[h.block N (aD hN) hne];exact hN
theorem XD (u:Bs):xE u=if(wl 60).isPrefixOf u=true then some (60,u.drop (wl 60).length) else if(wl 62).isPrefixOf u=true then some (62,u.drop (wl 62).length) else if(wl 38).isPrefixOf u=true then some (38,u.drop (wl 38).length) else if(wl 34).isPrefixOf u=true then some (34,u.drop (wl 34).length) else none:=rfl
def MkR (R:Nat)(u:Bs)(e:Ending)(w:World):Prop:=(xE u=none/\e=.returned (.tuple #[.int .u8 0,.bool false]))\/∃c r,xE u=some (c,r)/\e=.returned (.tuple #[.int .u8 (UInt8.toNat c),.bool true])/\RD R r w
theorem KG (R:Nat)(u:Bs)(W:World)(h:RD R u W):
  ak 162 #[aj R] W fun e w'=>aY R W w'/\MkR R u e w':=by
 have HW:=XD u;have w60:=oN 60;have w62:=oN 62;have w38:=oN 38;have w34:=oN 34;rw[V6] at w60 w62 w38 w34;go_enter func162,ntmps162;go_wp2_with fail
 go_loopw [4] (fun y wr=>∃i:Nat,y=aa i/\i<=4/\(∀j c,j<i->([60,62,38,34]:Bs)[j]? =some c->(wl c).isPrefixOf u=false)/\RD R u wr/\aY R W wr) (fun y _=>4-(intOf y).toNat)
 case atStart=>exact⟨0,rfl,Nat.zero_le _,fun j _ h=>absurd h (Nat.not_lt_zero _),h,aY.refl _ _⟩
 case round=>
  obtain⟨i,rfl,hi,hsm,hrd,hkp⟩:=hrel;have HS:Hid (∀j c,j<i->([60,62,38,34]:Bs)[j]? =some c->(wl c).isPrefixOf u=false):=hsm;clear hsm;have HM:Hid (xE u=if(wl 60).isPrefixOf u=true then some (60,u.drop (wl 60).length) else if(wl 62).isPrefixOf u=true then some (62,u.drop (wl 62).length) else if(wl 38).isPrefixOf u=true then some (38,u.drop (wl 38).length) else if(wl 34).isPrefixOf u=true then some (34,u.drop (wl 34).length) else none):=HW;clear HW;rcases i with _|_|_|_|_|i
  ·cases hp:(wl 60).isPrefixOf u with
   |true=>
    have SK:=iH R u (wl 60) wr hrd;rw[hp,r9 hp] at SK;have HZ:Hid (xE u=some (60,u.drop (wl 60).length)):=(by rw[HM.out,if_pos hp]:xE u=some (60,u.drop (wl 60).length));clear hp;go_wp2_with(first|(go_at_call 210;refine(w60 _).mono ?_;rintro e w1 ⟨rfl,rfl⟩)|(go_at_call 69;refine SK.mono ?_;rintro e w1 ⟨rfl,hr1,hk1⟩))
    go_ret2
    exact⟨hkp.trans hk1,.inr ⟨60,_,HZ.out,rfl,hr1⟩⟩
   |false=>
    have SK:=iH R u (wl 60) wr hrd;rw[hp,vZ hp] at SK;have HZ:Hid ((wl 60).isPrefixOf u=false):=hp;clear hp;go_wp2_with(first|(go_at_call 210;refine(w60 _).mono ?_;rintro e w1 ⟨rfl,rfl⟩)|(go_at_call 69;refine SK.mono ?_;rintro e w1 ⟨rfl,hr1,hk1⟩))
    go_roundw
    case rel=>exact⟨1,by go_num,by omega,fun j c hj hc=>by
     by_cases e:j<0
     ·exact HS.out j c (by omega) hc
     ·obtain rfl:j=0:=by omega
      simp at hc;subst hc;exact HZ.out,hr1,hkp.trans hk1⟩
    case measure=>simp[intOf]
  ·cases hp:(wl 62).isPrefixOf u with
   |true=>
    have SK:=iH R u (wl 62) wr hrd;rw[hp,r9 hp] at SK;have HZ:Hid (xE u=some (62,u.drop (wl 62).length)):=(by rw[HM.out,if_neg (by rw[HS.out 0 60 (by omega) rfl];simp),if_pos hp]:xE u=some (62,u.drop (wl 62).length));clear hp;go_wp2_with(first|(go_at_call 210;refine(w62 _).mono ?_;rintro e w1 ⟨rfl,rfl⟩)|(go_at_call 69;refine SK.mono ?_;rintro e w1 ⟨rfl,hr1,hk1⟩))
    go_ret2
    exact⟨hkp.trans hk1,.inr ⟨62,_,HZ.out,rfl,hr1⟩⟩
   |false=>
    have SK:=iH R u (wl 62) wr hrd;rw[hp,vZ hp] at SK;have HZ:Hid ((wl 62).isPrefixOf u=false):=hp;clear hp;go_wp2_with(first|(go_at_call 210;refine(w62 _).mono ?_;rintro e w1 ⟨rfl,rfl⟩)|(go_at_call 69;refine SK.mono ?_;rintro e w1 ⟨rfl,hr1,hk1⟩))
    go_roundw
    case rel=>exact⟨2,by go_num,by omega,fun j c hj hc=>by
     by_cases e:j<1
     ·exact HS.out j c (by omega) hc
     ·obtain rfl:j=1:=by omega
      simp at hc;subst hc;exact HZ.out,hr1,hkp.trans hk1⟩
    case measure=>simp[intOf]
  ·cases hp:(wl 38).isPrefixOf u with
   |true=>
    have SK:=iH R u (wl 38) wr hrd;rw[hp,r9 hp] at SK;have HZ:Hid (xE u=some (38,u.drop (wl 38).length)):=(by rw[HM.out,if_neg (by rw[HS.out 0 60 (by omega) rfl];simp),if_neg (by rw[HS.out 1 62 (by omega) rfl];simp),if_pos hp]:xE u=some (38,u.drop (wl 38).length));clear hp;go_wp2_with(first|(go_at_call 210;refine(w38 _).mono ?_;rintro e w1 ⟨rfl,rfl⟩)|(go_at_call 69;refine SK.mono ?_;rintro e w1 ⟨rfl,hr1,hk1⟩))
    go_ret2
    exact⟨hkp.trans hk1,.inr ⟨38,_,HZ.out,rfl,hr1⟩⟩
   |false=>
    have SK:=iH R u (wl 38) wr hrd;rw[hp,vZ hp] at SK;have HZ:Hid ((wl 38).isPrefixOf u=false):=hp;clear hp;go_wp2_with(first|(go_at_call 210;refine(w38 _).mono ?_;rintro e w1 ⟨rfl,rfl⟩)|(go_at_call 69;refine SK.mono ?_;rintro e w1 ⟨rfl,hr1,hk1⟩))
    go_roundw
    case rel=>exact⟨3,by go_num,by omega,fun j c hj hc=>by
     by_cases e:j<2
     ·exact HS.out j c (by omega) hc
     ·obtain rfl:j=2:=by omega
      simp at hc;subst hc;exact HZ.out,hr1,hkp.trans hk1⟩
    case measure=>simp[intOf]
  ·cases hp:(wl 34).isPrefixOf u with
   |true=>
    have SK:=iH R u (wl 34) wr hrd;rw[hp,r9 hp] at SK;have HZ:Hid (xE u=some (34,u.drop (wl 34).length)):=(by rw[HM.out,if_neg (by rw[HS.out 0 60 (by omega) rfl];simp),if_neg (by rw[HS.out 1 62 (by omega) rfl];simp),if_neg (by rw[HS.out 2 38 (by omega) rfl];simp),if_pos hp]:xE u=some (34,u.drop (wl 34).length));clear hp;go_wp2_with(first|(go_at_call 210;refine(w34 _).mono ?_;rintro e w1 ⟨rfl,rfl⟩)|(go_at_call 69;refine SK.mono ?_;rintro e w1 ⟨rfl,hr1,hk1⟩))
    go_ret2
    exact⟨hkp.trans hk1,.inr ⟨34,_,HZ.out,rfl,hr1⟩⟩
   |false=>
    have SK:=iH R u (wl 34) wr hrd;rw[hp,vZ hp] at SK;have HZ:Hid ((wl 34).isPrefixOf u=false):=hp;clear hp;go_wp2_with(first|(go_at_call 210;refine(w34 _).mono ?_;rintro e w1 ⟨rfl,rfl⟩)|(go_at_call 69;refine SK.mono ?_;rintro e w1 ⟨rfl,hr1,hk1⟩))
    go_roundw
    case rel=>exact⟨4,by go_num,by omega,fun j c hj hc=>by
     by_cases e:j<3
     ·exact HS.out j c (by omega) hc
     ·obtain rfl:j=3:=by omega
      simp at hc;subst hc;exact HZ.out,hr1,hkp.trans hk1⟩
    case measure=>simp[intOf]
  ·have HZ:Hid (xE u=none):=(by rw[HM.out,if_neg (by rw[HS.out 0 60 (by omega) rfl];simp),if_neg (by rw[HS.out 1 62 (by omega) rfl];simp),if_neg (by rw[HS.out 2 38 (by omega) rfl];simp),if_neg (by rw[HS.out 3 34 (by omega) rfl];simp)]:xE u=none);go_wp2_with fail
   go_ret2
   exact⟨hkp,.inl ⟨HZ.out,rfl⟩⟩
  ·omega
end
section
open Go.RowKit
set_option maxHeartbeats 4000000
set_option maxRecDepth 20000
def left (R:Nat)(w:World):Nat:=match w.cell? (ag R 0) with
 |some (.string s)=>s.size
 |_=>0
theorem RD.left {R:Nat}{s:Bs}{w:World}(h:RD R s w):left R w=s.length:=by
 unfold Go.Proofs.YtjfiehbcamfdfaaGreatDoor.left;rw[h.cell];exact fD s
theorem a0L {f:Nat}{s:Bs}(h:[34].isPrefixOf (Ct s)=true):nQ (f+1) s=some (Lf s,(Ct s).drop 1):=by rw[nQ,if_pos h]
theorem a4D {f:Nat}{s:Bs}(h:[34].isPrefixOf (Ct s)=false)(hm:xE (Ct s)=none):nQ (f+1) s=none:=by rw[nQ,if_neg (by rw[h];simp),hm]
theorem a4E {f:Nat}{s:Bs}{c:UInt8}{r:Bs}(h:[34].isPrefixOf (Ct s)=false)(hm:xE (Ct s)=some (c,r)):nQ (f+1) s=vY (Lf s++[c]) (nQ f r):=by rw[nQ,if_neg (by rw[h];simp),hm]
theorem RD.low {R B:Nat}{s:Bs}{w w':World}(h:RD R s w)(hb:Below B w w')(hR:R<B):RD R s w':=by
 unfold RD at h⊢;rw[<- h];exact hb.block R hR
theorem lF (R:Nat)(s wd:Bs)(W:World)(h:RD R s W)(hp:wd.isPrefixOf s=true):ak 69 #[aj R,.string ⟨wd.toArray⟩] W fun e w'=>e=.returned (.bool true)/\RD R (s.drop wd.length) w'/\aY R W w':=by
 have:=iH R s wd W h;rw[hp,r9 hp] at this;exact this
theorem ji (R:Nat)(s wd:Bs)(W:World)(h:RD R s W)(hp:wd.isPrefixOf s=false):ak 69 #[aj R,.string ⟨wd.toArray⟩] W fun e w'=>e=.returned (.bool false)/\RD R s w'/\aY R W w':=by
 have:=iH R s wd W h;rw[hp,vZ hp] at this;exact this
theorem SY (R:Nat)(s:Bs)(B:Nat)(W:World)(h:RD R s W)(hB:W.heap[B]? =some (.cells #[.string ⟨([60,62,38,34]:Bs).toArray⟩] 9))(hl:s.length<=100000):
  ak 70 #[aj R,.func (.func 116) #[] #[aj B]] W fun e w'=>e=.returned (.string ⟨(Lf s).toArray⟩)/\RD R (Ct s) w'/\aY R W w':=by
 have:=KF R s _ B W h hB hl;rw[a8C] at this;exact this
theorem nR (R:Nat)(s:Bs)(B:Nat)(W:World)(h:RD R s W)(hB:W.heap[B]? =some (.cells #[.string ⟨([32,61,34,60,62,47]:Bs).toArray⟩] 9))(hl:s.length<=100000):
  ak 70 #[aj R,.func (.func 116) #[] #[aj B]] W fun e w'=>e=.returned (.string ⟨(gT s).toArray⟩)/\RD R (qp s) w'/\aY R W w':=by
 have:=KF R s _ B W h hB hl;rw[a8B] at this;exact this
def VlR (R:Nat)(o:Option (Bs×Bs))(e:Ending)(w:World):Prop:=(o=none/\e=.returned (.tuple #[.string ⟨#[]⟩,.bool false]))\/∃v r:Bs,o=some (v,r)/\e=.returned (.tuple #[.string ⟨v.toArray⟩,.bool true])/\RD R r w
theorem EK (R:Nat)(s:Bs)(W:World)(h:RD R s W)(hl:s.length<=10000):
  ak 118 #[aj R] W fun e w'=>aY R W w'/\VlR R (nQ (s.length+1) s) e w':=by
 have hR:=h.lt;have b0:=aW W (.cells #[.pointer none,.slice none 0 0] 99);have a8D:=Bd.fresh W.heap.size W Nat.le.refl;go_enter func118,ntmps118;go_wp2_with fail;obtain⟨V,hV⟩:∃V,W.alloc (.cells #[.pointer none,.slice none 0 0] 99)=V:=⟨_,rfl⟩;have a8E:=h.al (.cells #[.pointer none,.slice none 0 0] 99);rw[hV] at b0 a8D a8E⊢;clear hV
 go_loopw [] (fun wr=>∃(acc rest:Bs) (f:Nat),rest.length<f/\acc.length+rest.length<=s.length/\nQ (s.length+1) s=vY acc (nQ f rest)/\RD R rest wr/\Bd W.heap.size W.heap.size acc wr/\aY R W wr) (fun wr=>left R wr)
 case atStart=>exact⟨[],s,s.length+1,by omega,by simp,(Xq _).symm,a8E,a8D,aY.of_below b0⟩
 case round=>
  obtain⟨acc,rest,f,hf,hal,heq,hrd,hbd,hkp⟩:=hrel;have HQ:Hid (nQ (s.length+1) s=vY acc (nQ f rest)):=heq;clear heq;obtain⟨f,rfl⟩:∃g,f=g+1:=⟨f-1,by omega⟩;have hml:=Py rest;have hsz:=hkp.size;have NO:=jG [60,62,38,34] wr;have wm:=hrd.al (.cells #[.string ⟨([60,62,38,34]:Bs).toArray⟩] 9);have nb:=dh wr #[.string ⟨([60,62,38,34]:Bs).toArray⟩] 9;have TK:=SY R rest wr.heap.size _ wm nb (by omega);have k1:=hkp.trans (aY.of_below (aW wr (.cells #[.string ⟨([60,62,38,34]:Bs).toArray⟩] 9)));have bd1:=hbd.al (.cells #[.string ⟨([60,62,38,34]:Bs).toArray⟩] 9);have HL:Hid (left R wr=rest.length):=hrd.left;clear hrd hbd nb wm;cases hp:[34].isPrefixOf (Ct rest) with
  |true=>
   have HZ:Hid (nQ (s.length+1) s=some (acc++Lf rest,(Ct rest).drop 1)):=(by rw[HQ.out,a0L hp];rfl:nQ (s.length+1) s=some (acc++Lf rest,(Ct rest).drop 1));go_wp2_with(first|(go_at_call 71;refine NO.mono ?_;rintro e w1 ⟨rfl,rfl⟩)|(go_at_call 70;refine TK.mono ?_;rintro e w2 ⟨rfl,lG,k2⟩;have K2:=k1.trans k2;have bd2:=bd1.keep k2 hR)|(go_at_call 161;refine(jW W.heap.size W.heap.size acc (Lf rest) _ bd2 (by omega) K2.size).mono ?_;rintro e w3 ⟨rfl,bd3,bk3⟩;have KH:=lG.low bk3.low hR;have K3:=K2.low bk3.low)|(go_at_call 69;refine(lF R _ [34] _ KH hp).mono ?_;rintro e w4 ⟨rfl,XE,k4⟩;have bd4:=bd3.keep k4 hR;have K4:=K3.trans k4)|(go_at_call 40;refine(Tryz.Builder_String_any_k W.heap.size _ _ _ bd4 K4.size).mono ?_;rintro e w5 ⟨rfl, -,hb5, -⟩))
   go_ret2
   exact⟨K4.low hb5,.inr ⟨_,_,HZ.out,rfl,XE.low hb5 hR⟩⟩
  |false=>
   cases hm:xE (Ct rest) with
   |none=>
    have HZ:Hid (nQ (s.length+1) s=none):=(by rw[HQ.out,a4D hp hm];rfl:nQ (s.length+1) s=none);have MK:∀W,RD R (Ct rest) W->ak 162 #[aj R] W fun e w'=>aY R W w'/\e=.returned (.tuple #[.int .u8 0,.bool false]):=fun W h=>(KG R _ W h).mono (fun e w' ⟨h1,h2⟩=>⟨h1,by
     rcases h2 with h2|⟨c,r,h2, -⟩
     ·exact h2.2
     ·rw[hm] at h2;cases h2⟩)
    clear hm;go_wp2_with(first|(go_at_call 71;refine NO.mono ?_;rintro e w1 ⟨rfl,rfl⟩)|(go_at_call 70;refine TK.mono ?_;rintro e w2 ⟨rfl,lG,k2⟩;have K2:=k1.trans k2;have bd2:=bd1.keep k2 hR)|(go_at_call 161;refine(jW W.heap.size W.heap.size acc (Lf rest) _ bd2 (by omega) K2.size).mono ?_;rintro e w3 ⟨rfl,bd3,bk3⟩;have KH:=lG.low bk3.low hR;have K3:=K2.low bk3.low)|(go_at_call 69;refine(ji R _ [34] _ KH hp).mono ?_;rintro e w4 ⟨rfl,XE,k4⟩;have K4:=K3.trans k4)|(go_at_call 162;refine(MK _ XE).mono ?_;rintro e w5 ⟨k5,rfl⟩))
    go_ret2
    exact⟨K4.trans k5,.inl ⟨HZ.out,rfl⟩⟩
   |some q=>
    obtain⟨c,r⟩:=q;have hlen:=Pz hm;have HZ:Hid (nQ (s.length+1) s=vY (acc++Lf rest++[c]) (nQ f r)):=(by rw[HQ.out,a4E hp hm,Kv,List.append_assoc]:nQ (s.length+1) s=vY (acc++Lf rest++[c]) (nQ f r));have MK:∀W,RD R (Ct rest) W->ak 162 #[aj R] W fun e w'=>aY R W w'/\e=.returned (.tuple #[.int .u8 (UInt8.toNat c),.bool true])/\RD R r w':=fun W h=>(KG R _ W h).mono (fun e w' ⟨h1,h2⟩=>⟨h1,by
     rcases h2 with h2|⟨c',r',h2,h3,h4⟩
     ·rw[hm] at h2;cases h2.1
     ·rw[hm] at h2;cases h2;exact⟨h3,h4⟩⟩)
    clear hm;go_wp2_with(first|(go_at_call 71;refine NO.mono ?_;rintro e w1 ⟨rfl,rfl⟩)|(go_at_call 70;refine TK.mono ?_;rintro e w2 ⟨rfl,lG,k2⟩;have K2:=k1.trans k2;have bd2:=bd1.keep k2 hR)|(go_at_call 161;refine(jW W.heap.size W.heap.size acc (Lf rest) _ bd2 (by omega) K2.size).mono ?_;rintro e w3 ⟨rfl,bd3,bk3⟩;have KH:=lG.low bk3.low hR;have K3:=K2.low bk3.low)|(go_at_call 69;refine(ji R _ [34] _ KH hp).mono ?_;rintro e w4 ⟨rfl,XE,k4⟩;have bd4:=bd3.keep k4 hR;have K4:=K3.trans k4)|(go_at_call 162;refine(MK _ XE).mono ?_;rintro e w5 ⟨k5,rfl,KI⟩;have bd5:=bd4.keep k5 hR;have K5:=K4.trans k5)|(go_at_call 38;refine(CF W.heap.size W.heap.size _ c _ bd5 (by simp;omega) K5.size).mono ?_;rintro e w6 ⟨rfl,bd6,bk6⟩))
    go_roundw
    case rel=>exact⟨_,_,f,by omega,by simp;omega,HZ.out,KI.low bk6.low hR,bd6,K5.low bk6.low⟩
    case measure=>have h1:=HL.out;have h2:=(KI.low bk6.low hR).left;omega
end
section
open Go.RowKit
set_option maxHeartbeats 4000000
set_option maxRecDepth 20000
theorem NB.bf {N:Nat}{c0 c1 c2:Value}{w:World}(h:NB N c0 c1 c2 w)(i:Nat):w.frozen? ⟨N,i,none⟩=false:=by
 unfold NB at h;unfold World.frozen?;rw[h];simp
theorem NB.lt {N:Nat}{c0 c1 c2:Value}{w:World}(h:NB N c0 c1 c2 w):N<w.heap.size:=aD h
theorem NB.keep {N R:Nat}{c0 c1 c2:Value}{w w':World}(h:NB N c0 c1 c2 w)(k:aY R w w')(hne:R≠N):NB N c0 c1 c2 w':=k.blk h (fun e=>hne e.symm)
theorem NB.al {N:Nat}{c0 c1 c2:Value}{w:World}(h:NB N c0 c1 c2 w)(o:Obj):NB N c0 c1 c2 (w.alloc o):=by
 have:=h.lt;unfold NB at h⊢;rw[<- h];exact(aW w o).block N this
theorem NB.grown {N:Nat}{g:Option Nat}{c0 c1 c2:Value}{w w':World}(h:NB N c0 c1 c2 w)(k:w.grownBy w' g)(hne:some N≠g):NB N c0 c1 c2 w':=by
 have:=h.lt;unfold NB at h⊢;rw[<- h];exact k.block N this hne
theorem NB.set1 {N:Nat}{c0 c1 c2:Value}{w:World}(h:NB N c0 c1 c2 w)(v:Value):NB N c0 v c2 (w.setCell ⟨N,1,none⟩ v):=by
 unfold NB at h⊢;rw[heap_setCell_same w N 1 _ _ _ h];rfl
theorem NB.set2 {N:Nat}{c0 c1 c2:Value}{w:World}(h:NB N c0 c1 c2 w)(v:Value):NB N c0 c1 v (w.setCell ⟨N,2,none⟩ v):=by
 unfold NB at h⊢;rw[heap_setCell_same w N 2 _ _ _ h];rfl
theorem RD.grown {R:Nat}{g:Option Nat}{s:Bs}{w w':World}(h:RD R s w)(k:w.grownBy w' g)(hne:some R≠g):RD R s w':=by
 have:=h.lt;unfold RD at h⊢;rw[<- h];exact k.block R this hne
theorem RD.sD {R N:Nat}{s:Bs}{w:World}(h:RD R s w)(i:Nat)(v:Value)(hne:R≠N):RD R s (w.setCell ⟨N,i,none⟩ v):=by
 unfold RD at h⊢;rw[<- h];exact Below.heap_setCell w _ v R hne
theorem aY.set (N:Nat)(i:Nat)(w:World)(v:Value):aY N w (w.setCell ⟨N,i,none⟩ v):=by
 have hs:=(Below.refl N w).setCell (p:=⟨N,i,none⟩) Nat.le.refl v;exact⟨hs.os,hs.tape,hs.output,hs.size,fun k _ hb=>Below.heap_setCell _ _ _ k hb⟩
theorem bH {R B k n:Nat}{e:TypeId}{v:Value}{xs:List Value}{w w':World}(h:w.ownsRow B e k v n xs)(hk:aY R w w')(hR:R<B):w'.ownsRow B e k v n xs:=
 h.kept hk.grown (.inr fun e=>by have:=(h.lt R e).1;omega)
theorem T9 (w:World)(a b:Value)(t:TypeId):∀j u,[a,b][j]? =some u->(w.alloc (.cells #[a,b] t)).cell? ((⟨w.heap.size,0,none⟩:Addr).add j)=some u:=by
 intro j u h;have e:(⟨w.heap.size,0,none⟩:Addr).add j=⟨w.heap.size,j,none⟩:=by unfold Addr.add;split<;>simp_all
 rw[e];exact gp w #[a,b] t j u (by simpa using h)
theorem pE {w:World}{B:Nat}{e:TypeId}{k:Nat}{v:Value}{n:Nat}{xs:List Value}(h:w.ownsRow B e k v n xs):∃o cap,v=.slice o n cap:=by
 obtain⟨o,cap,h1, -⟩:=bA h;exact⟨o,cap,h1⟩
theorem a4F {f:Nat}{s:Bs}(h:[32].isPrefixOf s=false):nV (f+1) s=some ([],s):=by rw[nV,if_neg (by rw[h];simp)]
theorem a0M {f:Nat}{s:Bs}(h:[32].isPrefixOf s=true)(h1:kJ (s.drop 1)=none):nV (f+1) s=none:=by rw[nV,if_pos h,h1]
theorem a4G {f:Nat}{s:Bs}{a:Bs×Bs}{r:Bs}(h:[32].isPrefixOf s=true)(h1:kJ (s.drop 1)=some (a,r)):nV (f+1) s=sw [a] (nV f r):=by rw[nV,if_pos h,h1]
theorem XF {r:Bs}(h:gT r=[]):kJ r=none:=by rw[kJ,if_pos h]
theorem a4H {r:Bs}(h:[61,34].isPrefixOf (qp r)=false):kJ r=none:=by
 rw[kJ];split
 ·rfl
 ·rw[if_neg (by rw[h];simp)]
theorem a4I {r:Bs}(h0:gT r≠[])(h:[61,34].isPrefixOf (qp r)=true)(hv:nQ (((qp r).drop 2).length+1) ((qp r).drop 2)=none):kJ r=none:=by rw[kJ,if_neg h0,if_pos h,hv]
theorem a0N {r v z:Bs}(h0:gT r≠[])(h:[61,34].isPrefixOf (qp r)=true)(hv:nQ (((qp r).drop 2).length+1) ((qp r).drop 2)=some (v,z)):kJ r=some ((gT r,v),z):=by rw[kJ,if_neg h0,if_pos h,hv]
def AtR (R N B:Nat)(c0 c2:Value)(o:Option (List (Bs×Bs)×Bs))(e:Ending)(w:World):Prop:=∃vA,NB N c0 vA c2 w/\((o=none/\e=.returned (.bool false))\/∃(ats:List (Bs×Bs)) (r:Bs),o=some (ats,r)/\e=.returned (.bool true)/\RD R r w/\w.ownsRow B 65 2 vA ats.length (aF ats))
theorem XG (R N:Nat)(s:Bs)(c0 c2:Value)(W:World)(h:RD R s W)(hN:NB N c0 (.slice none 0 0) c2 W)(hne:R≠N)(hl:s.length<=10000):
  ak 72 #[aj R,aj N] W fun e w'=>aP R N W w'/\AtR R N W.heap.size c0 c2 (nV (s.length+1) s) e w':=by
 have hR:=h.lt;have hNl:=hN.lt;obtain⟨i0,hi,hz0,hz1,hz2⟩:=info_parts vw;go_enter func72,ntmps72;go_wp2_with fail
 go_loopw [] (fun wr=>∃(acc:List (Bs×Bs)) (rest:Bs) (f:Nat) (vA:Value),rest.length<f/\rest.length+4*acc.length<=s.length/\nV (s.length+1) s=sw acc (nV f rest)/\RD R rest wr/\NB N c0 vA c2 wr/\wr.ownsRow W.heap.size 65 2 vA acc.length (aF acc)/\aP R N W wr) (fun wr=>left R wr)
 case atStart=>exact⟨[],s,s.length+1,.slice none 0 0,by omega,by simp,(Xr _).symm,h,hN,World.ownsRow_nil _ _ _ _,aP.of_below (Below.refl _ _)⟩
 case round=>
  obtain⟨acc,rest,f,vA,hf,hal,heq,hrd,hnb,hown,hkp⟩:=hrel;have HQ:Hid (nV (s.length+1) s=sw acc (nV f rest)):=heq;clear heq;obtain⟨f,rfl⟩:∃g,f=g+1:=⟨f-1,by omega⟩;have hsz:=hkp.size;have HL:Hid (left R wr=rest.length):=hrd.left;cases hp:[32].isPrefixOf rest with
  |false=>
   have HZ:Hid (nV (s.length+1) s=some (acc,rest)):=(by rw[HQ.out,a4F hp];simp[sw]:nV (s.length+1) s=some (acc,rest));go_wp2_with(go_at_call 69;refine(ji R _ [32] _ hrd hp).mono ?_;rintro e w1 ⟨rfl,wm,k1⟩);go_ret;exact⟨hkp.trans (aP.fe k1),vA,hnb.keep k1 hne,.inr ⟨acc,rest,HZ.out,rfl,wm,bH hown k1 hR⟩⟩
  |true=>
   have hlr:=fP hp;have SK1:=lF R rest [32] wr hrd hp;obtain⟨r,hr⟩:∃r,rest.drop 1=r:=⟨_,rfl⟩;have adi:1+r.length=rest.length:=by rw[<- hr];exact hlr
   rw[show rest.drop ([32]:Bs).length=r from hr] at SK1;have HB:Hid (kJ r=none->nV (s.length+1) s=none):=(fun h1=>by rw[HQ.out,a0M hp (by rw[hr];exact h1)];rfl:kJ r=none->nV (s.length+1) s=none);have HO:Hid (∀a z,kJ r=some (a,z)->nV (s.length+1) s=sw (acc++[a]) (nV f z)):=(fun a z h1=>by rw[HQ.out,a4G hp (by rw[hr];exact h1),Xt]:∀a z,kJ r=some (a,z)->nV (s.length+1) s=sw (acc++[a]) (nV f z));clear hlr hr hp;have hte:=zh r;by_cases he:gT r=[]
   ·have HZ:Hid (nV (s.length+1) s=none):=HB.out (XF he);go_wp2_with(first|(go_at_call 70;refine(nR R r _ _ lG nx (by omega)).mono ?_;rintro e w3 ⟨rfl,KH,k3⟩;have XH:=XI.keep k3 hne;have yK:=bH Cs k3 hR;have K3:=K2.trans (aP.fe k3);clear lG XI Cs;rw[he])|(go_at_call 71;refine(jG [32,61,34,60,62,47] _).mono ?_;rintro e w2 ⟨rfl,rfl⟩)|(go_at_call 69;refine SK1.mono ?_;rintro e w1 ⟨rfl,wm,k1⟩;have nx:=dh w1 #[.string ⟨([32,61,34,60,62,47]:Bs).toArray⟩] 9;have lG:=wm.al (.cells #[.string ⟨([32,61,34,60,62,47]:Bs).toArray⟩] 9);have XI:=(hnb.keep k1 hne).al (.cells #[.string ⟨([32,61,34,60,62,47]:Bs).toArray⟩] 9);have Cs:=World.ownsRow.alloc (bH hown k1 hR) (.cells #[.string ⟨([32,61,34,60,62,47]:Bs).toArray⟩] 9);have K2:=(hkp.trans (aP.fe k1)).trans (aP.of_below (aW w1 (.cells #[.string ⟨([32,61,34,60,62,47]:Bs).toArray⟩] 9)));clear wm));go_ret;exact⟨K3,vA,XH,.inl ⟨HZ.out,rfl⟩⟩
   ·have hem:(gT r).isEmpty=false:=by
     cases ht:gT r with
     |nil=>exact absurd ht he
     |cons _ _=>rfl
    cases hq:[61,34].isPrefixOf (qp r) with
    |false=>
     have HZ:Hid (nV (s.length+1) s=none):=HB.out (a4H hq);go_wp2_with(first|(have z3:=KH;go_at_call 69;refine(ji R (qp r) [61,34] _ z3 hq).mono ?_;rintro e w4 ⟨rfl,XE,k4⟩;have nb4:=XH.keep k4 hne;have K4:=K3.trans (aP.fe k4))|(go_at_call 70;refine(nR R r _ _ lG nx (by omega)).mono ?_;rintro e w3 ⟨rfl,KH,k3⟩;have XH:=XI.keep k3 hne;have yK:=bH Cs k3 hR;have K3:=K2.trans (aP.fe k3);clear lG XI Cs)|(go_at_call 71;refine(jG [32,61,34,60,62,47] _).mono ?_;rintro e w2 ⟨rfl,rfl⟩)|(go_at_call 69;refine SK1.mono ?_;rintro e w1 ⟨rfl,wm,k1⟩;have nx:=dh w1 #[.string ⟨([32,61,34,60,62,47]:Bs).toArray⟩] 9;have lG:=wm.al (.cells #[.string ⟨([32,61,34,60,62,47]:Bs).toArray⟩] 9);have XI:=(hnb.keep k1 hne).al (.cells #[.string ⟨([32,61,34,60,62,47]:Bs).toArray⟩] 9);have Cs:=World.ownsRow.alloc (bH hown k1 hR) (.cells #[.string ⟨([32,61,34,60,62,47]:Bs).toArray⟩] 9);have K2:=(hkp.trans (aP.fe k1)).trans (aP.of_below (aW w1 (.cells #[.string ⟨([32,61,34,60,62,47]:Bs).toArray⟩] 9)));clear wm));go_ret;exact⟨K4,vA,nb4,.inl ⟨HZ.out,rfl⟩⟩
    |true=>
     have hlq:=fP hq;have SK2:=fun W h=>lF R (qp r) [61,34] W h hq;obtain⟨x,hx⟩:∃x,(qp r).drop 2=x:=⟨_,rfl⟩;have ajA:2+x.length=(qp r).length:=by rw[<- hx];exact hlq
     rw[show(qp r).drop ([61,34]:Bs).length=x from hx] at SK2;have HV:Hid (nQ (x.length+1) x=none->kJ r=none):=(fun h=>a4I he hq (by rw[hx];exact h):nQ (x.length+1) x=none->kJ r=none);have HW:Hid (∀v z,nQ (x.length+1) x=some (v,z)->kJ r=some ((gT r,v),z)):=(fun v z h=>a0N he hq (by rw[hx];exact h):∀v z,nQ (x.length+1) x=some (v,z)->kJ r=some ((gT r,v),z));clear hlq hx hq;cases hv:nQ (x.length+1) x with
     |none=>
      have HZ:Hid (nV (s.length+1) s=none):=HB.out (HV.out hv);have VL:∀W,RD R x W->ak 118 #[aj R] W fun e w'=>aY R W w'/\e=.returned (.tuple #[.string ⟨#[]⟩,.bool false]):=fun W h=>(EK R _ W h (by omega)).mono (fun e w' ⟨h1,h2⟩=>⟨h1,by
       rcases h2 with h2|⟨c,r,h2, -⟩
       ·exact h2.2
       ·rw[hv] at h2;cases h2⟩)
      clear hv;go_wp2_with(first|(go_at_call 118;refine(VL _ XE).mono ?_;rintro e w5 ⟨k5,rfl⟩;have Gw:=nb4.keep k5 hne;have K5:=K4.trans (aP.fe k5))|(have z3:=KH;go_at_call 69;refine(SK2 _ z3).mono ?_;rintro e w4 ⟨rfl,XE,k4⟩;have nb4:=XH.keep k4 hne;have Vl:=bH yK k4 hR;have K4:=K3.trans (aP.fe k4);clear z3 KH XH yK)|(go_at_call 70;refine(nR R r _ _ lG nx (by omega)).mono ?_;rintro e w3 ⟨rfl,KH,k3⟩;have XH:=XI.keep k3 hne;have yK:=bH Cs k3 hR;have K3:=K2.trans (aP.fe k3);clear lG XI Cs)|(go_at_call 71;refine(jG [32,61,34,60,62,47] _).mono ?_;rintro e w2 ⟨rfl,rfl⟩)|(go_at_call 69;refine SK1.mono ?_;rintro e w1 ⟨rfl,wm,k1⟩;have nx:=dh w1 #[.string ⟨([32,61,34,60,62,47]:Bs).toArray⟩] 9;have lG:=wm.al (.cells #[.string ⟨([32,61,34,60,62,47]:Bs).toArray⟩] 9);have XI:=(hnb.keep k1 hne).al (.cells #[.string ⟨([32,61,34,60,62,47]:Bs).toArray⟩] 9);have Cs:=World.ownsRow.alloc (bH hown k1 hR) (.cells #[.string ⟨([32,61,34,60,62,47]:Bs).toArray⟩] 9);have K2:=(hkp.trans (aP.fe k1)).trans (aP.of_below (aW w1 (.cells #[.string ⟨([32,61,34,60,62,47]:Bs).toArray⟩] 9)));clear wm));go_ret;exact⟨K5,vA,Gw,.inl ⟨HZ.out,rfl⟩⟩
     |some q=>
      obtain⟨v,z⟩:=q;have hlv:v.length+z.length+1<=x.length:=Gr _ _ _ hv;have HZ:Hid (nV (s.length+1) s=sw (acc++[(gT r,v)]) (nV f z)):=HO.out _ _ (HW.out _ _ hv);have VL:∀W,RD R x W->ak 118 #[aj R] W fun e w'=>aY R W w'/\e=.returned (.tuple #[.string ⟨v.toArray⟩,.bool true])/\RD R z w':=fun W h=>(EK R _ W h (by omega)).mono (fun e w' ⟨h1,h2⟩=>⟨h1,by
       rcases h2 with h2|⟨v',z',h2,h3,h4⟩
       ·rw[hv] at h2;cases h2.1
       ·rw[hv] at h2;cases h2;exact⟨h3,h4⟩⟩)
      clear hv;obtain⟨oA,ajB,rfl⟩:=pE hown;go_upto_region 8 with(first|(go_at_call 118;refine(VL _ XE).mono ?_;rintro e w5 ⟨k5,rfl,KI⟩;have Gw:=nb4.keep k5 hne;have pQ:=bH Vl k5 hR;have K5:=K4.trans (aP.fe k5);have n1:=Gw.c1;clear XE nb4 Vl)|(have z3:=KH;go_at_call 69;refine(SK2 _ z3).mono ?_;rintro e w4 ⟨rfl,XE,k4⟩;have nb4:=XH.keep k4 hne;have Vl:=bH yK k4 hR;have K4:=K3.trans (aP.fe k4);clear z3 KH XH yK)|(go_at_call 70;refine(nR R r _ _ lG nx (by omega)).mono ?_;rintro e w3 ⟨rfl,KH,k3⟩;have XH:=XI.keep k3 hne;have yK:=bH Cs k3 hR;have K3:=K2.trans (aP.fe k3);clear lG XI Cs)|(go_at_call 71;refine(jG [32,61,34,60,62,47] _).mono ?_;rintro e w2 ⟨rfl,rfl⟩)|(go_at_call 69;refine SK1.mono ?_;rintro e w1 ⟨rfl,wm,k1⟩;have nx:=dh w1 #[.string ⟨([32,61,34,60,62,47]:Bs).toArray⟩] 9;have lG:=wm.al (.cells #[.string ⟨([32,61,34,60,62,47]:Bs).toArray⟩] 9);have XI:=(hnb.keep k1 hne).al (.cells #[.string ⟨([32,61,34,60,62,47]:Bs).toArray⟩] 9);have Cs:=World.ownsRow.alloc (bH hown k1 hR) (.cells #[.string ⟨([32,61,34,60,62,47]:Bs).toArray⟩] 9);have K2:=(hkp.trans (aP.fe k1)).trans (aP.of_below (aW w1 (.cells #[.string ⟨([32,61,34,60,62,47]:Bs).toArray⟩] 9)));clear wm));go_wp2_with(at_builtin;refine wpList_append_own _ rfl _ _ 22 rfl W.heap.size 65 i0 (.agg #[.string ⟨#[]⟩,.string ⟨#[]⟩]) 2 32 underlying22 hi hz0 hz1 hz2 rfl (by decide) _ _ _ rfl (World.ownsRow.alloc pQ _) ⟨w5.heap.size,0,none⟩ 1 1 [.string ⟨(gT r).toArray⟩,.string ⟨v.toArray⟩] rfl rfl (T9 w5 _ _ _) (fun u hu=>by simp at hu;rcases hu with rfl|rfl<;>rfl) (by rw[aQ];omega) (by omega) (by have:=K5.size;simp;omega) ?_;intro v7 w7 jQ lU _;have GQ:=(Gw.al _).grown lU (own_ne pQ hNl);have m1:=GQ.c1;have m2:=GQ.bf 1;obtain⟨o7,nH,rfl⟩:=pE jQ);have rd7:=(KI.al (.cells #[.string ⟨(gT r).toArray⟩,.string ⟨v.toArray⟩] 65)).grown lU (own_ne pQ hR)
      have K7:=(K5.trans (aP.of_below (aW w5 (.cells #[.string ⟨(gT r).toArray⟩,.string ⟨v.toArray⟩] 65)))).grown lU (fun b hb=>(pQ.lt b hb).1);have WO:=bH jQ (aY.set N 1 w7 (.slice o7 (acc.length+1) nH)) hNl;have rd8:=rd7.sD (N:=N) 1 (.slice o7 (acc.length+1) nH) hne
      go_roundw
      case rel=>exact⟨acc++[(gT r,v)],z,f,.slice o7 (acc.length+1) nH,by omega,by simp;omega,HZ.out,rd8,GQ.set1 _,by rw[yc,List.length_append];exact WO,K7.trans (aP.sD _ _ _)⟩
      case measure=>have h1:=HL.out;have h2:=rd8.left;omega
end
section
open Go.RowKit
def ElR (R B:Nat)(o:Option (Nd×Bs))(e:Ending)(w:World):Prop:=∃(s0:ByteArray) (o1:Option Addr) (n1 k1:Nat) (o2:Option Addr) (n2 k2:Nat),(o=none/\e=.returned (.tuple #[.agg #[.string s0,.slice o1 n1 k1,.slice o2 n2 k2],.bool false]))\/∃(n:Nd) (r:Bs),o=some (n,r)/\e=.returned (.tuple #[.agg #[.string s0,.slice o1 n1 k1,.slice o2 n2 k2],.bool true])/\RD R r w/\mY (fun b=>B<=b) w (.string s0) (.slice o1 n1 k1) (.slice o2 n2 k2) n
def El (R f:Nat):Prop:=∀(s:Bs) (W:World),s.length<f->s.length<=10000->RD R s W->
 ak 36 #[aj R] W fun e w'=>aY R W w'/\ElR R W.heap.size (iW f s) e w'
theorem Gx (s p:Bs)(w:World):ak 119 #[.string ⟨s.toArray⟩,.string ⟨p.toArray⟩] w fun e w'=>e=.returned (.bool (p.isPrefixOf s))/\w'=w:=by
 have:=Tryz.strings_HasPrefix ⟨s.toArray⟩ ⟨p.toArray⟩ w;exact this
theorem fK (s p:Bs)(b:Bool)(w:World)(h:p.isPrefixOf s=b):ak 119 #[.string ⟨s.toArray⟩,.string ⟨p.toArray⟩] w fun e w'=>e=.returned (.bool b)/\w'=w:=by
 rw[<- h];exact Gx s p w
theorem PT {el:Bs->Option (Nd×Bs)}{f:Nat}{s:Bs}(h:¬([60].isPrefixOf s=true/\[60,47].isPrefixOf s=false)):pR el (f+1) s=some ([],s):=by rw[pR,if_neg h]
theorem a0Q {el:Bs->Option (Nd×Bs)}{f:Nat}{s:Bs}(h:[60].isPrefixOf s=true/\[60,47].isPrefixOf s=false)(h1:el s=none):pR el (f+1) s=none:=by rw[pR,if_pos h,h1]
theorem a4J {el:Bs->Option (Nd×Bs)}{f:Nat}{s r:Bs}{k:Nd}(h:[60].isPrefixOf s=true/\[60,47].isPrefixOf s=false)(h1:el s=some (k,r)):pR el (f+1) s=qZ [k] (pR el f r):=by rw[pR,if_pos h,h1]
theorem nodeInfo:(prog.info? 25).map (fun i=>(i.zero,i.size,i.bytes))=some (some (.agg #[.string ⟨#[]⟩,.slice none 0 0,.slice none 0 0]),3,64):=by kernel_rfl
theorem nS {w:World}{B k n g cap:Nat}{e:TypeId}{xs:List Value}(h:w.ownsRow B e k (.slice (some ⟨g,0,none⟩) n cap) n xs)(j:Nat)(v:Value):(w.setCell ⟨g,j,none⟩ v).ownsRow B e k (.slice (some ⟨g,0,none⟩) n cap) n (xs.set j v):=by
 obtain⟨h1,h2⟩:=h;refine⟨by rw[List.length_set];exact h1,?_⟩;rcases h2 with⟨h2,_⟩|⟨g',cap',cur,h3,h4,h5,h6,h7,h8,h9⟩
 ·cases h2
 ·cases h3;refine .inr ⟨g,cap,cur.setIfInBounds j v,rfl,h4,heap_setCell_same w g j cur e v h5,h6,h7,by simpa using h8,?_⟩;rw[<- h9,Array.toList_setIfInBounds,List.take_set]
theorem XJ {w:World}{B k n g cap:Nat}{e:TypeId}{xs:List Value}(h:w.ownsRow B e k (.slice (some ⟨g,0,none⟩) n cap) n xs)(j:Nat):w.frozen? ⟨g,j,none⟩=false:=by
 rcases h.2 with⟨h2,_⟩|⟨g',cap',cur,h3,h4,h5, -⟩
 ·cases h2
 ·cases h3;exact frozen_of_row w g j cur e h5
theorem Cj {w:World}{B k n g cap:Nat}{e:TypeId}{xs:List Value}(h:w.ownsRow B e k (.slice (some ⟨g,0,none⟩) n cap) n xs){j:Nat}{u:Value}(hj:xs[j]? =some u):w.cell? (ag g j)=some u:=by
 obtain⟨g',h1,h2⟩:=bJ h j u hj;cases h1;exact h2
theorem a4K (K:List V3)(a b c:Value):(cZ K++[a,b,c])[K.length*3]? =some a/\(cZ K++[a,b,c])[K.length*3+1]? =some b/\(cZ K++[a,b,c])[K.length*3+2]? =some c:=by
 have h:(cZ K).length=K.length*3:=by
  induction K with
  |nil=>rfl
  |cons x r ih=>simp[cZ,ih];omega
 refine⟨?_,?_,?_⟩
 ·rw[List.getElem?_append_right (by omega),h,Nat.sub_self];rfl
 ·rw[List.getElem?_append_right (by omega),h,Nat.add_sub_cancel_left];rfl
 ·rw[List.getElem?_append_right (by omega),h,Nat.add_sub_cancel_left];rfl
theorem Ck:∀K:List V3,(cZ K).length=K.length*3
 |[]=>rfl
 |x::r=>by simp[cZ,Ck r];omega
def KdR (R N B:Nat)(c0 c1:Value)(o:Option (List Nd×Bs))(e:Ending)(w:World):Prop:=∃(oK:Option Addr) (nK cK:Nat),NB N c0 c1 (.slice oK nK cK) w/\((o=none/\e=.returned (.bool false))\/∃(ks:List Nd) (r:Bs) (K:List V3),o=some (ks,r)/\e=.returned (.bool true)/\RD R r w/\w.ownsRow B 25 3 (.slice oK nK cK) K.length (cZ K)/\KR (fun b=>B<=b) w K ks)
theorem a8F (K:List V3)(x y z a b c:Value):(((cZ K++[x,y,z]).set (K.length*3) a).set (K.length*3+1) b).set (K.length*3+2) c=cZ K++[a,b,c]:=by
 have h:=Ck K;rw[List.set_append_right _ _ (by omega),List.set_append_right _ _ (by omega),List.set_append_right _ _ (by omega),h,Nat.sub_self,Nat.add_sub_cancel_left,Nat.add_sub_cancel_left];rfl
theorem aP.Ta {r n g:Nat}{A B:World}(h:aP r n A B)(i:Nat)(v:Value)(hg:A.heap.size<=g):aP r n A (B.setCell ⟨g,i,none⟩ v):=
 h.grown (aY.set g i B v).grown (fun b hb=>by cases hb;exact hg)
def NI (N g q cap n:Nat)(a b c:Value)(w V:World):Prop:=V=(((w.setCell ⟨g,q,none⟩ a).setCell ⟨g,q+1,none⟩ b).setCell ⟨g,q+2,none⟩ c).setCell ⟨N,2,none⟩ (.slice (some ⟨g,0,none⟩) n cap)\/V=(((w.setCell ⟨N,2,none⟩ (.slice (some ⟨g,0,none⟩) n cap)).setCell ⟨g,q,none⟩ a).setCell ⟨g,q+1,none⟩ b).setCell ⟨g,q+2,none⟩ c
theorem XK {R N g q cap n:Nat}{a b c:Value}{w V:World}{s:Bs}(h:NI N g q cap n a b c w V)(hr:RD R s w)(h1:R≠N)(h2:R≠g):RD R s V:=by
 rcases h with rfl|rfl
 ·exact(((hr.sD _ _ h2).sD _ _ h2).sD _ _ h2).sD _ _ h1
 ·exact(((hr.sD _ _ h1).sD _ _ h2).sD _ _ h2).sD _ _ h2
theorem a4L {N g q cap n:Nat}{a b c c0 c1 c2:Value}{w V:World}(h:NI N g q cap n a b c w V)(hr:NB N c0 c1 c2 w)(h2:g≠N):NB N c0 c1 (.slice (some ⟨g,0,none⟩) n cap) V:=by
 rcases h with rfl|rfl
 ·exact(((hr.keep (aY.set g _ _ _) h2).keep (aY.set g _ _ _) h2).keep (aY.set g _ _ _) h2).set2 _
 ·exact(((hr.set2 _).keep (aY.set g _ _ _) h2).keep (aY.set g _ _ _) h2).keep (aY.set g _ _ _) h2
theorem a0R {N g cap B:Nat}{K:List V3}{a b c x y z:Value}{w V:World}(h:NI N g (K.length*3) cap (K.length+1) a b c w V)(ho:w.ownsRow B 25 3 (.slice (some ⟨g,0,none⟩) (K.length+1) cap) (K.length+1) (cZ K++[x,y,z]))(hN:N<B):
  V.ownsRow B 25 3 (.slice (some ⟨g,0,none⟩) (K.length+1) cap) (K++[(a,b,c)]).length (cZ (K++[(a,b,c)])):=by
 rw[yA,List.length_append];show V.ownsRow B _ 3 _ (K.length+1) (cZ K++[a,b,c]);rw[<- a8F K x y z a b c];rcases h with rfl|rfl
 ·exact bH (nS (nS (nS ho _ _) _ _) _ _) (aY.set N _ _ _) hN
 ·exact nS (nS (nS (bH ho (aY.set N _ _ _) hN) _ _) _ _) _ _
theorem XL {R N g q cap n:Nat}{a b c:Value}{A w V:World}(h:NI N g q cap n a b c w V)(hk:aP R N A w)(hg:A.heap.size<=g):aP R N A V:=by
 rcases h with rfl|rfl
 ·exact(((hk.Ta _ _ hg).Ta _ _ hg).Ta _ _ hg).trans (aP.sD _ _ _)
 ·exact(((hk.trans (aP.sD _ _ _)).Ta _ _ hg).Ta _ _ hg).Ta _ _ hg
theorem a0S {N g q cap n:Nat}{a b c:Value}{w V:World}(h:NI N g q cap n a b c w V)(k:Nat)(h1:k≠N)(h2:k≠g):V.heap[k]? =w.heap[k]? :=by
 rcases h with rfl|rfl
 ·rw[Below.heap_setCell _ _ _ k h1,Below.heap_setCell _ _ _ k h2,Below.heap_setCell _ _ _ k h2,Below.heap_setCell _ _ _ k h2]
 ·rw[Below.heap_setCell _ _ _ k h2,Below.heap_setCell _ _ _ k h2,Below.heap_setCell _ _ _ k h2,Below.heap_setCell _ _ _ k h1]
theorem XM {R N f m cap g cK:Nat}{oK:Option Addr}{W w1 w2 w5 V:World}{K:List V3}{acc:List Nd}{kid:Nd}{s r:Bs}{c0 c1 a b c:Value}{ob:Obj}{x y z:Value}{cs:Array Value}{tb:TypeId}
  (hne:R≠N) (hR:R<W.heap.size) (hNl:N<W.heap.size) (hlr:r.length<m) (hal:r.length+(acc.length+1)<=s.length)
  (HZ:pR (iW f) (s.length+1) s=qZ (acc++[kid]) (pR (iW f) m r))
  (hown:w1.ownsRow W.heap.size 25 3 (.slice oK K.length cK) K.length (cZ K))
  (HKR:KR (fun b=>W.heap.size<=b/\(Value.slice oK K.length cK).ownBlock≠some b) w1 K acc)
  (hkp:aP R N W w1) (hnb:NB N c0 c1 (.slice oK K.length cK) w1) (yR:aY R w1 w2) (lG:RD R r w2) (hk2:mY (fun b=>w1.heap.size<=b) w2 a b c kid)
  (gr5:((w2.alloc ob).alloc (.cells cs tb)).drew.grownBy w5 (Value.slice oK K.length cK).ownBlock)
  (pQ:w5.ownsRow W.heap.size 25 3 (.slice (some ⟨g,0,none⟩) (K.length+1) cap) (K.length+1) (cZ K++[x,y,z]))
  (hat:(Value.slice oK K.length cK).ownBlock=some g\/g=((w2.alloc ob).alloc (.cells cs tb)).drew.heap.size)
  (hV:NI N g (K.length*3) cap (K.length+1) a b c w5 V):
  RD R r V/\∃(acc':List Nd) (K':List V3) (rest':Bs) (m':Nat) (vK':Value),rest'.length<m'/\rest'.length+acc'.length<=s.length/\pR (iW f) (s.length+1) s=qZ acc' (pR (iW f) m' rest')/\RD R rest' V/\NB N c0 c1 vK' V/\V.ownsRow W.heap.size 25 3 vK' K'.length (cZ K')/\KR (fun b=>W.heap.size<=b/\vK'.ownBlock≠some b) V K' acc'/\aP R N W V:=by
 have q0:=(pQ.lt g rfl).1;have GH:=hkp.size;have Tt:=yR.size;have adk:∀q,(Value.slice oK K.length cK).ownBlock=some q->q<w1.heap.size:=fun q hq=>(hown.lt q hq).2;have eU:∀q,q<w2.heap.size->((w2.alloc ob).alloc (.cells cs tb)).drew.heap[q]? =w2.heap[q]? :=fun q hq=>((aW (w2.alloc ob) (.cells cs tb)).block q (by have:=(aW w2 ob).size;omega)).trans ((aW w2 ob).block q hq);have sU:w2.heap.size+2=((w2.alloc ob).alloc (.cells cs tb)).drew.heap.size:=by
  show _=((w2.alloc ob).alloc (.cells cs tb)).heap.size;simp
 have e5:∀q,q<w2.heap.size->(Value.slice oK K.length cK).ownBlock≠some q->w5.heap[q]? =w2.heap[q]? :=fun q hq hn=>(gr5.block q (by omega) (fun e=>hn e.symm)).trans (eU q hq);have eV:∀q,q<w2.heap.size->(Value.slice oK K.length cK).ownBlock≠some q->q≠N->V.heap[q]? =w2.heap[q]? /\ q≠g:=fun q hq hn hN=>by
  have hg:q≠g:=by
   rintro rfl;rcases hat with hat|hat
   ·exact hn hat
   ·omega
  exact⟨(a0S hV q hN hg).trans (e5 q hq hn),hg⟩
 have KI:RD R r w5:=by
  unfold RD at lG⊢;rw[e5 R (aD lG) (fun e=>own_ne hown hR e.symm)];exact lG
 have Gw:NB N c0 c1 (.slice oK K.length cK) w5:=by
  have h2:=hnb.keep yR hne;unfold NB at h2⊢;rw[e5 N (aD h2) (fun e=>own_ne hown hNl e.symm)];exact h2
 have k5:aP R N W w5:=by
  have h2:aP R N W ((w2.alloc ob).alloc (.cells cs tb)).drew:=(((hkp.trans (aP.fe yR)).trans (aP.of_below (aW w2 ob))).trans (aP.of_below (aW _ (.cells cs tb)))).trans (aP.of_below ⟨rfl,rfl,rfl,Nat.le_refl _,fun _ _=>rfl⟩);exact h2.grown gr5 (fun b hb=>(hown.lt b hb).1)
 refine⟨XK hV KI hne (by omega),acc++[kid],K++[(a,b,c)],r,m,.slice (some ⟨g,0,none⟩) (K.length+1) cap,hlr,by simpa using hal,HZ,XK hV KI hne (by omega),a4L hV Gw (by omega),a0R hV pQ hNl,?_,XL hV k5 q0⟩;refine KR.snoc (KR.turn (w:=w1) (fun q hq hlt=>?_) HKR) (mY.turn (w:=w2) (fun q hq hlt=>?_) kid hk2)
 ·obtain⟨h1,h2⟩:=eV q (by omega) hq.2 (by omega);refine⟨⟨hq.1,fun e=>h2 (by cases e;rfl)⟩,h1.trans (yR.block q hlt (by omega))⟩
 ·obtain⟨h1,h2⟩:=eV q hlt (fun e=>by have:=adk q e;omega) (by omega);exact⟨⟨by omega,fun e=>h2 (by cases e;rfl)⟩,h1⟩
end
section
open Go.RowKit
set_option maxHeartbeats 4000000
set_option maxRecDepth 20000
theorem a0T (R N f:Nat)(IH:El R f)(s:Bs)(c0 c1:Value)(W:World)(h:RD R s W)(hN:NB N c0 c1 (.slice none 0 0) W)(hne:R≠N)(hl:s.length<=10000)(hf:s.length<f):
  ak 73 #[aj R,aj N] W fun e w'=>aP R N W w'/\KdR R N W.heap.size c0 c1 (pR (iW f) (s.length+1) s) e w':=by
 have hR:=h.lt;have hNl:=hN.lt;obtain⟨i0,hi,hz0,hz1,hz2⟩:=info_parts nodeInfo;go_enter func73,ntmps73;go_wp2_with fail
 go_loopw [] (fun wr=>∃(acc:List Nd) (K:List V3) (rest:Bs) (m:Nat) (vK:Value),rest.length<m/\rest.length+acc.length<=s.length/\pR (iW f) (s.length+1) s=qZ acc (pR (iW f) m rest)/\RD R rest wr/\NB N c0 c1 vK wr/\wr.ownsRow W.heap.size 25 3 vK K.length (cZ K)/\KR (fun b=>W.heap.size<=b/\vK.ownBlock≠some b) wr K acc/\aP R N W wr) (fun wr=>left R wr)
 case atStart=>exact⟨[],[],s,s.length+1,.slice none 0 0,by omega,by simp,(Xu _).symm,h,hN,World.ownsRow_nil _ _ _ _,trivial,aP.of_below (Below.refl _ _)⟩
 case round=>
  obtain⟨acc,K,rest,m,vK,hm,hal,heq,hrd,hnb,hown,hkr,hkp⟩:=hrel;have HQ:Hid (pR (iW f) (s.length+1) s=qZ acc (pR (iW f) m rest)):=heq;have HKR:Hid (KR (fun b=>W.heap.size<=b/\vK.ownBlock≠some b) wr K acc):=hkr;clear heq hkr;obtain⟨oK,cK,rfl⟩:=pE hown;obtain⟨m,rfl⟩:∃g,m=g+1:=⟨m-1,by omega⟩;have hsz:=hkp.size;have HL:Hid (left R wr=rest.length):=hrd.left;have cR:=hrd.cell;have HKK:Hid (KR (fun b=>W.heap.size<=b) wr K acc):=KR.turn (fun b hb _=>⟨hb.1,rfl⟩) HKR.out;cases hp:[60].isPrefixOf rest with
  |false=>
   have HZ:Hid (pR (iW f) (s.length+1) s=some (acc,rest)):=(by rw[HQ.out,PT (by rw[hp];simp)];simp[qZ]:pR (iW f) (s.length+1) s=some (acc,rest));go_wp2_with(go_at_call 119;refine(fK rest [60] false _ hp).mono ?_;rintro e w1 ⟨rfl,rfl⟩);go_ret;exact⟨hkp,oK,_,cK,hnb,.inr ⟨acc,rest,K,HZ.out,rfl,hrd,hown,HKK.out⟩⟩
  |true=>
   cases hq:[60,47].isPrefixOf rest with
   |true=>
    have HZ:Hid (pR (iW f) (s.length+1) s=some (acc,rest)):=(by rw[HQ.out,PT (by rw[hq];simp)];simp[qZ]:pR (iW f) (s.length+1) s=some (acc,rest));go_wp2_with(go_at_call 119;first|(refine(fK rest [60,47] true _ hq).mono ?_;rintro e w1 ⟨rfl,rfl⟩)|(refine(fK rest [60] true _ hp).mono ?_;rintro e w1 ⟨rfl,rfl⟩));go_ret;exact⟨hkp,oK,_,cK,hnb,.inr ⟨acc,rest,K,HZ.out,rfl,hrd,hown,HKK.out⟩⟩
   |false=>
    have HE:=IH rest wr (by omega) (by omega) hrd;cases hv:iW f rest with
    |none=>
     have HZ:Hid (pR (iW f) (s.length+1) s=none):=(by rw[HQ.out,a0Q ⟨hp,hq⟩ hv];rfl:pR (iW f) (s.length+1) s=none);have HE1:=HE.mono (R':=fun e w'=>aY R wr w'/\∃(s0:ByteArray) (o1:Option Addr) (n1 k1:Nat) (o2:Option Addr) (n2 k2:Nat),e=.returned (.tuple #[.agg #[.string s0,.slice o1 n1 k1,.slice o2 n2 k2],.bool false])) (fun e w' h=>by
      refine⟨h.1,?_⟩;obtain⟨s0,o1,n1,k1,o2,n2,k2,h2|⟨n,r,h2, -⟩⟩:=h.2
      ·exact⟨s0,o1,n1,k1,o2,n2,k2,h2.2⟩
      ·rw[hv] at h2;cases h2)
     clear HE hv;go_wp2_with(first|(go_at_call 36;refine HE1.mono ?_;rintro e w2 ⟨yR,s0,o1,n1,k1,o2,n2,k2,rfl⟩)|(go_at_call 119;first|(refine(fK rest [60,47] false _ hq).mono ?_;rintro e w1 ⟨rfl,rfl⟩)|(refine(fK rest [60] true _ hp).mono ?_;rintro e w1 ⟨rfl,rfl⟩)));go_ret;exact⟨(hkp.trans (aP.fe yR)).trans (aP.of_below (aW w2 _)),oK,_,cK,(hnb.keep yR hne).al _,.inl ⟨HZ.out,rfl⟩⟩
    |some p=>
     obtain⟨kid,r⟩:=p;have hlr:=PG _ _ _ hv;simp only at hlr;have HZ:Hid (pR (iW f) (s.length+1) s=qZ (acc++[kid]) (pR (iW f) m r)):=(by rw[HQ.out,a4J ⟨hp,hq⟩ hv,Xv]:pR (iW f) (s.length+1) s=qZ (acc++[kid]) (pR (iW f) m r));have HE1:=HE.mono (R':=fun e w'=>aY R wr w'/\∃(s0:ByteArray) (o1:Option Addr) (n1 k1:Nat) (o2:Option Addr) (n2 k2:Nat),e=.returned (.tuple #[.agg #[.string s0,.slice o1 n1 k1,.slice o2 n2 k2],.bool true])/\RD R r w'/\mY (fun b=>wr.heap.size<=b) w' (.string s0) (.slice o1 n1 k1) (.slice o2 n2 k2) kid) (fun e w' h=>by
      refine⟨h.1,?_⟩;obtain⟨s0,o1,n1,k1,o2,n2,k2,h2|⟨n,r',h2,h3,h4,h5⟩⟩:=h.2
      ·rw[hv] at h2;cases h2.1
      ·rw[hv] at h2;cases h2;exact⟨s0,o1,n1,k1,o2,n2,k2,h3,h4,h5⟩)
     clear HE hv;go_upto_region 5 with(first|(go_at_call 36;refine HE1.mono ?_;rintro e w2 ⟨yR,s0,o1,n1,k1,o2,n2,k2,rfl,lG,hk2⟩)|(go_at_call 119;first|(refine(fK rest [60,47] false _ hq).mono ?_;rintro e w1 ⟨rfl,rfl⟩)|(refine(fK rest [60] true _ hp).mono ?_;rintro e w1 ⟨rfl,rfl⟩)));have nbU:=(hnb.keep yR hne).al (.cells #[.string s0,.slice o1 n1 k1,.slice o2 n2 k2] 25);have rdU:=lG.al (.cells #[.string s0,.slice o1 n1 k1,.slice o2 n2 k2] 25);have owU:=World.ownsRow.alloc (bH hown yR hR) (.cells #[.string s0,.slice o1 n1 k1,.slice o2 n2 k2] 25);have bxU:=dh w2 #[.string s0,.slice o1 n1 k1,.slice o2 n2 k2] 25;have szU:w2.heap.size<(w2.alloc (.cells #[.string s0,.slice o1 n1 k1,.slice o2 n2 k2] 25)).heap.size:=aD bxU;have neU:∀b,(Value.slice oK K.length cK).ownBlock=some b->b<w2.heap.size:=fun b hb=>((bH hown yR hR).lt b hb).2;have Tt:=yR.size;obtain⟨U,hU⟩:∃U,w2.alloc (.cells #[.string s0,.slice o1 n1 k1,.slice o2 n2 k2] 25)=U:=⟨_,rfl⟩;rw[hU] at nbU rdU owU bxU szU⊢;obtain⟨KB,hKB⟩:∃KB,w2.heap.size=KB:=⟨_,rfl⟩;rw[hKB] at bxU szU neU Tt⊢;have x0:=aA bxU 0 (.string s0) rfl;have x1:=aA bxU 1 (.slice o1 n1 k1) rfl;have x2:=aA bxU 2 (.slice o2 n2 k2) rfl;have y2:=nbU.c2;have y2':=fun o=>bO o y2;have H0:=dh U #[.string ⟨#[]⟩,.slice none 0 0,.slice none 0 0] 25;have zU:W.heap.size<=U.heap.size:=by omega
     have hix:(K.length:Int)<(K.length:Int)+1:=by omega
     have hkb:(K.length:Int)<=10000:=by have:=HKR.out.len;omega
     have x0':=fun o=>bO o x0;have x1':=fun o=>bO o x1;have x2':=fun o=>bO o x2
     go_region_law ((refine step_append_lies _ rfl (.tmp 30) (.tmp 33) 23 rfl W.heap.size 25 i0 (.agg #[.string ⟨#[]⟩,.slice none 0 0,.slice none 0 0]) 3 64 underlying23 hi hz0 hz1 hz2 rfl (by decide) (.slice oK K.length cK) K.length (cZ K) rfl (World.ownsRow.alloc owU _) ⟨U.heap.size,0,none⟩ 1 1 [.string ⟨#[]⟩,.slice none 0 0,.slice none 0 0] rfl rfl (World.news_of_block H0) (fun u hu=>by simp at hu;rcases hu with rfl|rfl|rfl<;>rfl) (by decide) (by rw[aQ];omega) (by omega) (by simp;omega) _ rfl ?_;intro g cap w5 pQ gr5 hat hlt;have g0:=Cj pQ (a4K K _ _ _).1;have g1:=Cj pQ (a4K K _ _ _).2.1;have g2:=Cj pQ (a4K K _ _ _).2.2;have gf:=XJ pQ;have q0:=(pQ.lt g rfl).1;have q1:¬N=g:=(by omega);have q2:¬g=N:=(by omega);have Gw:=NB.grown (k:=gr5) (h:=by exact nbU.al _) (hne:=own_ne owU hNl);have m2:=Gw.c2;have mf:=Gw.bf))
     all_goals(
      subst hU;have FIN:=fun V hV=>XM (V:=V) hne hR hNl (show r.length<m by omega) (show r.length+(acc.length+1)<=s.length by omega) HZ.out hown HKR.out hkp hnb yR lG hk2 gr5 pQ hat hV;have MEA:∀V,NI N g (K.length*3) cap (K.length+1) (.string s0) (.slice o1 n1 k1) (.slice o2 n2 k2) w5 V->left R V<left R w1:=fun V hV=>by have h1:=HL.out;have h2:=(FIN V hV).1.left;omega
      go_wp2_with fail
      go_roundw
      case rel=>exact(FIN _ (by first|exact Or.inl (by with_reducible rfl)|exact Or.inr (by with_reducible rfl))).2
      case measure=>exact MEA _ (by first|exact Or.inl (by with_reducible rfl)|exact Or.inr (by with_reducible rfl)))
end
end Go.Proofs.YtjfiehbcamfdfaaGreatDoor

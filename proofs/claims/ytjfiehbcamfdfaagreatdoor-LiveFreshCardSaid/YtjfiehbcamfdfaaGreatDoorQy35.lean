/-
  Parts of the proof.
-/
import Derived.Test.YtjfiehbcamfdfaaGreatDoorQy12
namespace Go.Proofs.YtjfiehbcamfdfaaGreatDoor
open Go.Proofs.Tryz
section
def eB (c:UInt8):Bool:=c==32||c==61||c==34||c==60||c==62||c==47
def mB (c:UInt8):Bool:=c==60||c==62||c==38||c==34
def gT (s:Bs):Bs:=s.takeWhile (fun c=> !eB c)
def qp (s:Bs):Bs:=s.dropWhile (fun c=> !eB c)
def Lf (s:Bs):Bs:=s.takeWhile (fun c=> !mB c)
def Ct (s:Bs):Bs:=s.dropWhile (fun c=> !mB c)
theorem EI (P:UInt8->Bool)(s:Bs):(s.takeWhile P).length+(s.dropWhile P).length=s.length:=by
 rw[<- List.length_append,List.takeWhile_append_dropWhile]
theorem zh (s:Bs):(gT s).length+(qp s).length=s.length:=EI _ s
theorem Py (s:Bs):(Lf s).length+(Ct s).length=s.length:=EI _ s
theorem fP {w s:Bs}(h:w.isPrefixOf s=true):w.length+(s.drop w.length).length=s.length:=by
 have:=(List.isPrefixOf_iff_prefix.1 h).length_le;rw[List.length_drop];omega
end
section
open Go.RowKit
def xH (Q:Nat->Prop)(w:World)(v:Value)(ats:List (Bs×Bs)):Prop:=∃o cap,v=.slice o ats.length cap/\ats.length<=cap/\cap<=maxLen/\(o=none->cap=0)/\∀i x,ats[i]? =some x->∃b off,Q b/\o=some ⟨b,off,none⟩/\w.cell? (ag b (off+i*2))=some (eD x.1)/\w.cell? (ag b (off+i*2+1))=some (eD x.2)/\x.1.length<=maxLen/\x.2.length<=maxLen
mutual
def mY (Q:Nat->Prop)(w:World)(c0 c1 c2:Value):Nd->Prop
 | .mk nm ats ks=>c0=eD nm/\nm.length<=maxLen/\xH Q w c1 ats/\∃o cap,c2=.slice o ks.length cap/\ks.length<=cap/\cap<=maxLen/\(o=none->cap=0)/\qm Q w o 0 ks
def qm (Q:Nat->Prop)(w:World)(o:Option Addr)(i:Nat):List Nd->Prop
 |[]=>True
 |k::l=>(∃b off c0 c1 c2,Q b/\o=some ⟨b,off,none⟩/\w.cell? (ag b (off+i*3))=some c0/\w.cell? (ag b (off+i*3+1))=some c1/\w.cell? (ag b (off+i*3+2))=some c2/\mY Q w c0 c1 c2 k)/\qm Q w o (i+1) l
end
theorem xH.ats {Q:Nat->Prop}{w:World}{v:Value}{ats:List (Bs×Bs)}(h:xH Q w v ats):kg w v ats:=by
 obtain⟨o,cap,h1,h2,h3,h4,h5⟩:=h;refine⟨o,cap,h1,h2,h3,h4,fun i x hx=>?_⟩;obtain⟨b,off, -,h6⟩:=h5 i x hx;exact⟨b,off,h6⟩
mutual
theorem mY.nd {Q:Nat->Prop}{w:World}:∀{c0 c1 c2:Value} (n:Nd),mY Q w c0 c1 c2 n->jR w c0 c1 c2 n
 |_,_,_,.mk _ _ ks,h=>by
  unfold mY at h;unfold jR;obtain⟨h1,h2,h3,o,cap,h4,h5,h6,h8,h7⟩:=h;exact⟨h1,h2,h3.ats,o,cap,h4,h5,h6,h8,qm.kds ks h7⟩
theorem qm.kds {Q:Nat->Prop}{w:World}:∀{o:Option Addr} {i:Nat} (l:List Nd),qm Q w o i l->fE w o i l
 |_,_,[],_=>by unfold fE;trivial
 |_,_,k::l,h=>by
  unfold qm at h;unfold fE;obtain⟨⟨b,off,c0,c1,c2, -,h1,h2,h3,h4,h5⟩,h6⟩:=h;exact⟨⟨b,off,c0,c1,c2,h1,h2,h3,h4,mY.nd k h5⟩,qm.kds l h6⟩
end
def SX (Q Q':Nat->Prop)(w w':World):Prop:=∀b,Q b->b<w.heap.size->Q' b/\w'.heap[b]? =w.heap[b]?
theorem SX.cell {Q Q':Nat->Prop}{w w':World}(h:SX Q Q' w w'){b i:Nat}{v:Value}(hq:Q b)(hc:w.cell? (ag b i)=some v):w'.cell? (ag b i)=some v:=by
 rw[World.cell?_of_block (h b hq (ax hc)).2];exact hc
theorem xH.turn {Q Q':Nat->Prop}{w w':World}{v:Value}{ats:List (Bs×Bs)}(h:xH Q w v ats)(t:SX Q Q' w w'):xH Q' w' v ats:=by
 obtain⟨o,cap,h1,h2,h3,h4,h5⟩:=h;refine⟨o,cap,h1,h2,h3,h4,fun i x hx=>?_⟩;obtain⟨b,off,hq,h6,h7,h8,h9⟩:=h5 i x hx;exact⟨b,off,(t b hq (ax h7)).1,h6,t.cell hq h7,t.cell hq h8,h9⟩
mutual
theorem mY.turn {Q Q':Nat->Prop}{w w':World}(t:SX Q Q' w w'):∀{c0 c1 c2:Value} (n:Nd),mY Q w c0 c1 c2 n->mY Q' w' c0 c1 c2 n
 |_,_,_,.mk _ _ ks,h=>by
  unfold mY at h⊢;obtain⟨h1,h2,h3,o,cap,h4,h5,h6,h8,h7⟩:=h;exact⟨h1,h2,h3.turn t,o,cap,h4,h5,h6,h8,qm.turn t ks h7⟩
theorem qm.turn {Q Q':Nat->Prop}{w w':World}(t:SX Q Q' w w'):∀{o:Option Addr} {i:Nat} (l:List Nd),qm Q w o i l->qm Q' w' o i l
 |_,_,[],_=>by unfold qm;trivial
 |_,_,k::l,h=>by
  unfold qm at h⊢;obtain⟨⟨b,off,c0,c1,c2,hq,h1,h2,h3,h4,h5⟩,h6⟩:=h;exact⟨⟨b,off,c0,c1,c2,(t b hq (ax h2)).1,h1,t.cell hq h2,t.cell hq h3,t.cell hq h4,mY.turn t k h5⟩,qm.turn t l h6⟩
end
theorem xH.XA {w:World}{B:Nat}{v:Value}{ats:List (Bs×Bs)}(h:w.ownsRow B 65 2 v ats.length (aF ats))(hl:∀x∈ats,x.1.length<=maxLen/\x.2.length<=maxLen):xH (fun b=>v.ownBlock=some b) w v ats:=by
 obtain⟨o,cap,h1,h2,h3,h4,h5⟩:=bA h;refine⟨o,cap,h1,h2,h3,h4,fun i x hx=>?_⟩;obtain⟨c0,c1⟩:=uu ats i x hx;obtain⟨g,hg,e0⟩:=bJ h _ _ c0;obtain⟨g',hg',e1⟩:=bJ h _ _ c1;obtain rfl:g=g':=by rw[hg] at hg';cases hg';rfl
 exact⟨g,0,hg,h5 g hg,by rw[Nat.zero_add];exact e0,by rw[Nat.zero_add];exact e1,hl x (List.mem_of_getElem? hx)⟩
abbrev V3:=Value×Value×Value
def cZ:List V3->List Value
 |[]=>[]
 |x::r=>[x.1,x.2.1,x.2.2]++cZ r
theorem tK:∀a c:List V3,cZ (a++c)=cZ a++cZ c
 |[],_=>rfl
 |x::a,c=>by simp[cZ,tK a c]
theorem yA (a:List V3)(x:V3):cZ (a++[x])=cZ a++[x.1,x.2.1,x.2.2]:=by rw[tK];simp[cZ]
theorem Ci:∀(M:List V3) (i:Nat) (x:V3),M[i]? =some x->(cZ M)[i*3]? =some x.1/\(cZ M)[i*3+1]? =some x.2.1/\(cZ M)[i*3+2]? =some x.2.2
 |[],i,x,h=>by simp at h
 |y::r,0,x,h=>by
  simp at h;subst h;exact⟨rfl,rfl,rfl⟩
 |y::r,i+1,x,h=>by
  have:=Ci r i x (by simpa using h);rw[show(i+1)*3=i*3+1+1+1 from by omega,show i*3+1+1+1+1=(i*3+1)+1+1+1 from rfl,show i*3+1+1+1+2=(i*3+2)+1+1+1 from rfl];simp only[cZ,List.cons_append,List.nil_append,List.getElem?_cons_succ];exact this
def KR (Q:Nat->Prop)(w:World):List V3->List Nd->Prop
 |[],[]=>True
 |x::r,n::l=>mY Q w x.1 x.2.1 x.2.2 n/\KR Q w r l
 |_,_=>False
theorem KR.len {Q:Nat->Prop}{w:World}:∀{a:List V3} {l:List Nd},KR Q w a l->a.length=l.length
 |[],[],_=>rfl
 |_::_,_::_,h=>by simp[KR.len h.2]
 |[],_::_,h=>h.elim
 |_::_,[],h=>h.elim
theorem KR.turn {Q Q':Nat->Prop}{w w':World}(t:SX Q Q' w w'):∀{a:List V3} {l:List Nd},KR Q w a l->KR Q' w' a l
 |[],[],_=>trivial
 |_::_,_::_,h=>⟨mY.turn t _ h.1,KR.turn t h.2⟩
 |[],_::_,h=>h.elim
 |_::_,[],h=>h.elim
theorem KR.snoc {Q:Nat->Prop}{w:World}:∀{a:List V3} {l:List Nd} {x:V3} {n:Nd},KR Q w a l->mY Q w x.1 x.2.1 x.2.2 n->KR Q w (a++[x]) (l++[n])
 |[],[],_,_,_,h=>⟨h,trivial⟩
 |_::_,_::_,_,_,h,k=>⟨h.1,KR.snoc h.2 k⟩
 |[],_::_,_,_,h,_=>h.elim
 |_::_,[],_,_,h,_=>h.elim
theorem KR.get {Q:Nat->Prop}{w:World}:∀{a:List V3} {l:List Nd} {i:Nat} {n:Nd},KR Q w a l->l[i]? =some n->∃x,a[i]? =some x/\mY Q w x.1 x.2.1 x.2.2 n
 |[],[],_,_,_,h=>by simp at h
 |x::_,_::_,0,_,h,hx=>by simp at hx;subst hx;exact⟨x,rfl,h.1⟩
 |_::r,_::l,i+1,n,h,hx=>by
  obtain⟨x,h1,h2⟩:=KR.get (a:=r) (l:=l) (i:=i) (n:=n) h.2 (by simpa using hx);exact⟨x,by simpa using h1,h2⟩
 |[],_::_,_,_,h,_=>h.elim
 |_::_,[],_,_,h,_=>h.elim
theorem PM {Q:Nat->Prop}{w:World}{o:Option Addr}:∀{l:List Nd} {i:Nat},(∀j k,l[j]? =some k->∃b off c0 c1 c2,Q b/\o=some ⟨b,off,none⟩/\w.cell? (ag b (off+(i+j)*3))=some c0/\w.cell? (ag b (off+(i+j)*3+1))=some c1/\w.cell? (ag b (off+(i+j)*3+2))=some c2/\mY Q w c0 c1 c2 k)->qm Q w o i l
 |[],_,_=>by unfold qm;trivial
 |k::l,i,h=>by
  unfold qm;refine⟨h 0 k rfl,PM fun j k' hk=>?_⟩;have:=h (j+1) k' (by simpa using hk);rw[show i+(j+1)=i+1+j from by omega] at this;exact this
theorem mY.make {Q:Nat->Prop}{w:World}{B:Nat}{nm:Bs}{cA vK:Value}{ats:List (Bs×Bs)}{K:List V3}{ks:List Nd}(hl:nm.length<=maxLen)(ha:xH Q w cA ats)(hk:w.ownsRow B 25 3 vK K.length (cZ K))(hr:KR Q w K ks)(hq:∀b,vK.ownBlock=some b->Q b):mY Q w (.string ⟨nm.toArray⟩) cA vK (.mk nm ats ks):=by
 unfold mY;have hlen:=hr.len;obtain⟨o,cap,h1,h2,h3,h4,h5⟩:=bA hk;refine⟨rfl,hl,ha,o,cap,by rw[<- hlen];exact h1,by omega,h3,h4,PM fun j k hj=>?_⟩;obtain⟨x,hx,hn⟩:=hr.get hj;obtain⟨c0,c1,c2⟩:=Ci K j x hx;obtain⟨g,hg,e0⟩:=bJ hk _ _ c0;obtain⟨g',hg',e1⟩:=bJ hk _ _ c1;obtain rfl:g=g':=by rw[hg] at hg';cases hg';rfl
 obtain⟨g',hg',e2⟩:=bJ hk _ _ c2;obtain rfl:g=g':=by rw[hg] at hg';cases hg';rfl
 rw[Nat.zero_add];exact⟨g,0,_,_,_,hq g hg,h5 g hg,by rw[Nat.zero_add];exact e0,by rw[Nat.zero_add];exact e1,by rw[Nat.zero_add];exact e2,hn⟩
structure aP (r n:Nat)(W w:World):Prop where
 os:w.os=W.os
 tape:w.tape=W.tape
 output:w.output=W.output
 size:W.heap.size<=w.heap.size
 block:∀k,k<W.heap.size->k≠r->k≠n->w.heap[k]? =W.heap[k]?
theorem aP.trans {r n:Nat}{A B C:World}(h:aP r n A B)(k:aP r n B C):aP r n A C:=
 ⟨k.os.trans h.os,k.tape.trans h.tape,k.output.trans h.output,Nat.le_trans h.size k.size,fun i hi h1 h2=>(k.block i (Nat.lt_of_lt_of_le hi h.size) h1 h2).trans (h.block i hi h1 h2)⟩
theorem aP.fe {r n:Nat}{A B:World}(h:aY r A B):aP r n A B:=⟨h.os,h.tape,h.output,h.size,fun i hi h1 _=>h.block i hi h1⟩
theorem aP.of_below {r n:Nat}{A B:World}(h:Below A.heap.size A B):aP r n A B:=⟨h.os,h.tape,h.output,h.size,fun i hi _ _=>h.block i hi⟩
theorem aP.sD {r n:Nat}(A:World)(i:Nat)(v:Value):aP r n A (A.setCell ⟨n,i,none⟩ v):=by
 have hs:=(Below.refl n A).setCell (p:=⟨n,i,none⟩) eU v;exact⟨hs.os,hs.tape,hs.output,hs.size,fun k _ _ hb=>Below.heap_setCell _ _ _ k hb⟩
theorem aP.keep {r n:Nat}{A B C:World}(h:aY r A B)(k:aP r n B C)(hn:A.heap.size<=n):aY r A C:=
 ⟨k.os.trans h.os,k.tape.trans h.tape,k.output.trans h.output,Nat.le_trans h.size k.size,fun i hi h1=>(k.block i (Nat.lt_of_lt_of_le hi h.size) h1 (by omega)).trans (h.block i hi h1)⟩
theorem aP.grown {r n:Nat}{A B C:World}{g:Option Nat}(h:aP r n A B)(k:B.grownBy C g)(hg:∀b,g=some b->A.heap.size<=b):aP r n A C:=
 ⟨k.os.trans h.os,k.tape.trans h.tape,k.output.trans h.output,Nat.le_trans h.size k.size,fun i hi h1 h2=>(k.block i (Nat.lt_of_lt_of_le hi h.size) (fun e=>by have:=hg i e.symm;omega)).trans (h.block i hi h1 h2)⟩
theorem aY.al {b:Nat}{A B:World}(h:aY b A B)(o:Obj):aY b A (B.alloc o):=h.trans (aY.of_below (aW B o))
def RD (R:Nat)(s:Bs)(w:World):Prop:=w.heap[R]? =some (.cells #[.string ⟨s.toArray⟩] 92)
theorem RD.cell {R:Nat}{s:Bs}{w:World}(h:RD R s w):w.cell? (ag R 0)=some (.string ⟨s.toArray⟩):=aA h 0 _ rfl
theorem RD.bf {R:Nat}{s:Bs}{w:World}(h:RD R s w):w.frozen? ⟨R,0,none⟩=false:=by
 unfold RD at h;unfold World.frozen?;rw[h];rfl
theorem RD.lt {R:Nat}{s:Bs}{w:World}(h:RD R s w):R<w.heap.size:=aD h
theorem RD.set {R:Nat}{s t:Bs}{w:World}(h:RD R s w):RD R t (w.setCell ⟨R,0,none⟩ (.string ⟨t.toArray⟩)):=by
 unfold RD at h⊢;rw[heap_setCell_same w R 0 _ _ _ h];rfl
theorem RD.al {R:Nat}{s:Bs}{w:World}(h:RD R s w)(o:Obj):RD R s (w.alloc o):=by
 have:=h.lt;unfold RD at h⊢;rw[<- h];exact(aW w o).block R this
end
section
open Go.RowKit
set_option maxHeartbeats 4000000
set_option maxRecDepth 20000
def a0J (wd s:Bs):Bs:=if wd.isPrefixOf s=true then s.drop wd.length else s
theorem r9 {wd s:Bs}(h:wd.isPrefixOf s=true):a0J wd s=s.drop wd.length:=if_pos h
theorem vZ {wd s:Bs}(h:wd.isPrefixOf s=false):a0J wd s=s:=if_neg (by rw[h];simp)
theorem Gu (s p:Bs)(w:World):ak 115 #[.string ⟨s.toArray⟩,.string ⟨p.toArray⟩] w fun e w'=>e=.returned (.tuple #[.string ⟨(a0J p s).toArray⟩,.bool (p.isPrefixOf s)])/\w'=w:=by
 have:=Tryz.strings_CutPrefix ⟨s.toArray⟩ ⟨p.toArray⟩ w;exact this
theorem iH (R:Nat)(s wd:Bs)(W:World)(h:RD R s W):ak 69 #[aj R,.string ⟨wd.toArray⟩] W fun e w'=>e=.returned (.bool (wd.isPrefixOf s))/\RD R (a0J wd s) w'/\aY R W w':=by
 have c:=h.cell;have f:=h.bf;go_enter func69,ntmps69;go_wp2_with(go_at_call 115;refine(Gu s wd _).mono ?_;rintro e w1 ⟨rfl,rfl⟩);go_ret;exact⟨rfl,h.set,(aY.of_below (Below.refl _ _)).setCell _⟩
theorem jG (ends:Bs)(W:World):ak 71 #[.string ⟨ends.toArray⟩] W fun e w'=>e=.returned (.func (.func 116) #[] #[aj W.heap.size])/\w'=W.alloc (.cells #[.string ⟨ends.toArray⟩] 9):=by
 go_enter func71,ntmps71;go_wp2;go_ret;exact⟨rfl,rfl⟩
def Lg (ends:Bs)(c:UInt8):Bool:=decide (Lib.indexByte ends c<0)
theorem XC (ends:Bs)(c:UInt8):Lg ends c= !(ends.any (fun b=>b==c)):=by
 unfold Lg
 induction ends with
 |nil=>rfl
 |cons b l ih=>
  have hr: -1<=Lib.indexByte l c:=by
   clear ih
   induction l with
   |nil=>exact Int.le_refl _
   |cons d l ih=>unfold Lib.indexByte;split;decide;split;decide;omega
  rw[List.any_cons];unfold Lib.indexByte;by_cases hb:(b==c)=true
  ·rw[if_pos hb,hb];rfl
  ·rw[if_neg hb,Bool.eq_false_iff.2 hb,Bool.false_or,<- ih];by_cases h1:(Lib.indexByte l c== -1)=true
   ·rw[if_pos h1,eq_of_beq h1]
   ·rw[if_neg h1];have:Lib.indexByte l c≠-1:=fun e=>h1 (by rw[e];rfl);rw[decide_eq_false (by omega),decide_eq_false (by omega)]
theorem a8B:Lg [32,61,34,60,62,47]=fun c=> !eB c:=by
 funext c;rw[XC];simp[eB,Bool.beq_comm,Bool.or_assoc]
theorem a8C:Lg [60,62,38,34]=fun c=> !mB c:=by
 funext c;rw[XC];simp[mB,Bool.beq_comm,Bool.or_assoc]
theorem Gv (ends:Bs)(c:UInt8)(w:World):ak 117 #[.string ⟨ends.toArray⟩,.int .u8 c.toNat] w fun e w'=>e=.returned (aa (Lib.indexByte ends c))/\w'=w:=by
 have:=Tryz.strings_IndexByte ⟨ends.toArray⟩ c.toNat w;rw[show((c.toNat:Int)).toNat.toUInt8=c from by simp] at this;exact this
theorem Kz (ends:Bs)(c:UInt8)(B:Nat)(W:World)(h:W.cell? (ag B 0)=some (.string ⟨ends.toArray⟩)):ak 116 #[.int .u8 c.toNat,aj B] W fun e w'=>e=.returned (.bool (Lg ends c))/\w'=W:=by
 go_enter func116,ntmps116;go_wp2_with(go_at_call 117;refine(Gv ends c _).mono ?_;rintro e w1 ⟨rfl,rfl⟩);go_ret;exact⟨rfl,rfl⟩
theorem a4M {P:UInt8->Bool}{s:Bs}{i:Nat}(h:∀j c,j<i->s[j]? =some c->P c=true)(he:∀c,s[i]? =some c->P c=false):s.takeWhile P=s.take i/\s.dropWhile P=s.drop i:=by
 have h1:∀c∈s.take i,P c=true:=fun c hc=>by
  obtain⟨j,hj⟩:=List.mem_iff_getElem?.1 hc;rw[List.getElem?_take] at hj;split at hj
  ·exact h j c (by assumption) hj
  ·cases hj
 have h2:(s.drop i).takeWhile P=[]/\(s.drop i).dropWhile P=s.drop i:=by
  cases hd:s.drop i with
  |nil=>exact⟨rfl,rfl⟩
  |cons c r=>
   have:s[i]? =some c:=by have:=congrArg List.head? hd;simpa using this
   have:=he c this;exact⟨List.takeWhile_cons_of_neg (by simp[this]),List.dropWhile_cons_of_neg (by simp[this])⟩
 have e:s=s.take i++s.drop i:=(List.take_append_drop i s).symm;constructor
 ·conv=>lhs;rw[e]
  rw[List.takeWhile_append_of_pos h1,h2.1,List.append_nil]
 ·conv=>lhs;rw[e]
  rw[List.dropWhile_append_of_pos h1,h2.2]
theorem a4C (s:Bs)(i:Nat)(h:i<(⟨s.toArray⟩:ByteArray).size):s[i]? =some ((⟨s.toArray⟩:ByteArray)[i]):=by
 rw[<- Oy ⟨s.toArray⟩ i h];exact List.getElem?_eq_getElem _
theorem PR (s:Bs)(i:Nat):(⟨s.toArray⟩:ByteArray).extract 0 i=⟨(s.take i).toArray⟩:=by
 have h:=Lib.extract_data ⟨s.toArray⟩ 0 i;cases he:(⟨s.toArray⟩:ByteArray).extract 0 i with
 |mk d=>
  rw[he] at h;simp at h;rw[<- h]
theorem a0K (s:Bs)(i:Nat):(⟨s.toArray⟩:ByteArray).extract i s.length=⟨(s.drop i).toArray⟩:=by
 have h:=Lib.extract_to_end ⟨s.toArray⟩ i;rw[fD] at h;cases he:(⟨s.toArray⟩:ByteArray).extract i s.length with
 |mk d=>
  rw[he] at h;simp at h;rw[<- h]
theorem KF (R:Nat)(s ends:Bs)(B:Nat)(W:World)(h:RD R s W)(hB:W.heap[B]? =some (.cells #[.string ⟨ends.toArray⟩] 9))(hl:s.length<=100000):
  ak 70 #[aj R,.func (.func 116) #[] #[aj B]] W fun e w'=>e=.returned (.string ⟨(s.takeWhile (Lg ends)).toArray⟩)/\RD R (s.dropWhile (Lg ends)) w'/\aY R W w':=by
 have c:=h.cell;have f:=h.bf;have hb:=aA hB 0 _ rfl;have hsz:=fD s;have hl':(s.length:Int)<=100000:=by omega
 go_enter func70,ntmps70;go_wp2_with fail
 go_loopw [5] (fun y wr=>∃i:Nat,y=aa i/\i<=s.length/\(∀j c,j<i->s[j]? =some c->Lg ends c=true)/\wr=W) (fun y _=>s.length-(intOf y).toNat)
 case atStart=>exact⟨0,rfl,Nat.zero_le _,fun j _ h=>absurd h (Nat.not_lt_zero _),rfl⟩
 case round=>
  obtain⟨i,rfl,hi,hsm,rfl⟩:=hrel;have HS:Hid (∀j c,j<i->s[j]? =some c->Lg ends c=true):=hsm;clear hsm;by_cases hlt:i<s.length
  ·have hlt':(i:Int)<(s.length:Int):=by omega
   have hget:=a4C s i (by rw[hsz];exact hlt);have hlt2:i<(⟨s.toArray⟩:ByteArray).size:=by rw[hsz];exact hlt
   obtain⟨c1,hc1⟩:∃c1,(⟨s.toArray⟩:ByteArray)[i]=c1:=⟨_,rfl⟩;rw[hc1] at hget;cases hft:Lg ends c1 with
   |true=>
    have HN:Hid (∀j c,j<i+1->s[j]? =some c->Lg ends c=true):=(fun j c hj hc=>by
     by_cases e:j<i
     ·exact HS.out j c e hc
     ·obtain rfl:j=i:=by omega
      rw[hget] at hc;cases hc;exact hft:∀j c,j<i+1->s[j]? =some c->Lg ends c=true)
    have HF:=Kz ends c1 B wr hb;rw[hft] at HF;clear hget hft;go_wp2_with(go_at_call 116;refine HF.mono ?_;rintro e w1 ⟨rfl,rfl⟩)
    go_roundw
    case rel=>exact⟨i+1,by go_num,by omega,HN.out,trivial⟩
    case measure=>simp[intOf];omega
   |false=>
    have HT:Hid (s.takeWhile (Lg ends)=s.take i/\s.dropWhile (Lg ends)=s.drop i):=a4M HS.out (fun c hc=>by rw[hget] at hc;cases hc;exact hft);have HF:=Kz ends c1 B wr hb;rw[hft] at HF;clear hget hft;go_wp2_with(go_at_call 116;refine HF.mono ?_;rintro e w1 ⟨rfl,rfl⟩);go_ret;refine⟨by rw[HT.out.1,<- PR];rfl,?_,(aY.of_below (Below.refl _ _)).setCell _⟩;have q:=RD.set (t:=s.drop i) h;rw[<- a0K] at q;rw[HT.out.2];exact q
  ·obtain rfl:i=s.length:=by omega
   have HT:Hid (s.takeWhile (Lg ends)=s.take s.length/\s.dropWhile (Lg ends)=s.drop s.length):=a4M HS.out (fun c hc=>by rw[List.getElem?_eq_none eU] at hc;cases hc);go_wp2_with fail;go_ret;refine⟨by rw[HT.out.1,<- PR];rfl,?_,(aY.of_below (Below.refl _ _)).setCell _⟩;rw[HT.out.2,List.drop_length];exact RD.set (t:=[]) h
end
section
open Go.RowKit
theorem aY.grown {b:Nat}{A B:World}(h:aY b A B):A.grownBy B (some b):=⟨h.os,h.tape,h.output,h.size,fun k hk hne=>h.block k hk (fun e=>hne (by rw[e]))⟩
theorem aY.low {b:Nat}{A B C:World}(h:aY b A B)(k:Below A.heap.size B C):aY b A C:=⟨k.os.trans h.os,k.tape.trans h.tape,k.output.trans h.output,Nat.le_trans h.size k.size,fun i hi hb=>(k.block i hi).trans (h.block i hi hb)⟩
theorem Bd.keep {B b R:Nat}{l:Bs}{w w':World}(h:Bd B b l w)(k:aY R w w')(hR:R<B):Bd B b l w':=by
 have aux:∀p,Lib.BuilderAtF 99 5 B b p (Lib.byteCells l) w->Lib.BuilderAtF 99 5 B b p (Lib.byteCells l) w':=fun p ⟨hB,v,hb,ho,hne⟩=>
  ⟨hB,v,by rw[k.block b (aD hb) (by omega)];exact hb,ho.kept k.grown (.inr fun e=>by have:=(ho.lt R e).1;omega),hne⟩
 exact h.elim (fun x=>.inl (aux _ x)) (fun x=>.inr (aux _ x))
theorem aY.blk {b:Nat}{A B:World}(h:aY b A B){N:Nat}{o:Obj}(hN:A.heap[N]? =some o)(hne:N≠b):B.heap[N]? =some o:=by
 rw[h.block N (aD hN) hne];exact hN
end
section
open Go.RowKit
def left (R:Nat)(w:World):Nat:=match w.cell? (ag R 0) with
 |some (.string s)=>s.size
 |_=>0
theorem RD.left {R:Nat}{s:Bs}{w:World}(h:RD R s w):left R w=s.length:=by
 unfold Go.Proofs.YtjfiehbcamfdfaaGreatDoor.left;rw[h.cell];exact fD s
theorem RD.low {R B:Nat}{s:Bs}{w w':World}(h:RD R s w)(hb:Below B w w')(hR:R<B):RD R s w':=by
 unfold RD at h⊢;rw[<- h];exact hb.block R hR
theorem lF (R:Nat)(s wd:Bs)(W:World)(h:RD R s W)(hp:wd.isPrefixOf s=true):ak 69 #[aj R,.string ⟨wd.toArray⟩] W fun e w'=>e=.returned (.bool true)/\RD R (s.drop wd.length) w'/\aY R W w':=by
 have:=iH R s wd W h;rw[hp,r9 hp] at this;exact this
theorem ji (R:Nat)(s wd:Bs)(W:World)(h:RD R s W)(hp:wd.isPrefixOf s=false):ak 69 #[aj R,.string ⟨wd.toArray⟩] W fun e w'=>e=.returned (.bool false)/\RD R s w'/\aY R W w':=by
 have:=iH R s wd W h;rw[hp,vZ hp] at this;exact this
theorem SY (R:Nat)(s:Bs)(B:Nat)(W:World)(h:RD R s W)(hB:W.heap[B]? =some (.cells #[.string ⟨([60,62,38,34]:Bs).toArray⟩] 9))(hl:s.length<=100000):
  ak 70 #[aj R,.func (.func 116) #[] #[aj B]] W fun e w'=>e=.returned (.string ⟨(Lf s).toArray⟩)/\RD R (Ct s) w'/\aY R W w':=by
 have:=KF R s _ B W h hB hl;rw[a8C] at this;exact this
theorem nR (R:Nat)(s:Bs)(B:Nat)(W:World)(h:RD R s W)(hB:W.heap[B]? =some (.cells #[.string ⟨([32,61,34,60,62,47]:Bs).toArray⟩] 9))(hl:s.length<=100000):
  ak 70 #[aj R,.func (.func 116) #[] #[aj B]] W fun e w'=>e=.returned (.string ⟨(gT s).toArray⟩)/\RD R (qp s) w'/\aY R W w':=by
 have:=KF R s _ B W h hB hl;rw[a8B] at this;exact this
end
section
open Go.RowKit
theorem NB.bf {N:Nat}{c0 c1 c2:Value}{w:World}(h:NB N c0 c1 c2 w)(i:Nat):w.frozen? ⟨N,i,none⟩=false:=by
 unfold NB at h;unfold World.frozen?;rw[h];simp
theorem NB.lt {N:Nat}{c0 c1 c2:Value}{w:World}(h:NB N c0 c1 c2 w):N<w.heap.size:=aD h
theorem NB.keep {N R:Nat}{c0 c1 c2:Value}{w w':World}(h:NB N c0 c1 c2 w)(k:aY R w w')(hne:R≠N):NB N c0 c1 c2 w':=k.blk h (fun e=>hne e.symm)
theorem NB.al {N:Nat}{c0 c1 c2:Value}{w:World}(h:NB N c0 c1 c2 w)(o:Obj):NB N c0 c1 c2 (w.alloc o):=by
 have:=h.lt;unfold NB at h⊢;rw[<- h];exact(aW w o).block N this
theorem NB.grown {N:Nat}{g:Option Nat}{c0 c1 c2:Value}{w w':World}(h:NB N c0 c1 c2 w)(k:w.grownBy w' g)(hne:some N≠g):NB N c0 c1 c2 w':=by
 have:=h.lt;unfold NB at h⊢;rw[<- h];exact k.block N this hne
theorem NB.set1 {N:Nat}{c0 c1 c2:Value}{w:World}(h:NB N c0 c1 c2 w)(v:Value):NB N c0 v c2 (w.setCell ⟨N,1,none⟩ v):=by
 unfold NB at h⊢;rw[heap_setCell_same w N 1 _ _ _ h];rfl
theorem NB.set2 {N:Nat}{c0 c1 c2:Value}{w:World}(h:NB N c0 c1 c2 w)(v:Value):NB N c0 c1 v (w.setCell ⟨N,2,none⟩ v):=by
 unfold NB at h⊢;rw[heap_setCell_same w N 2 _ _ _ h];rfl
theorem RD.grown {R:Nat}{g:Option Nat}{s:Bs}{w w':World}(h:RD R s w)(k:w.grownBy w' g)(hne:some R≠g):RD R s w':=by
 have:=h.lt;unfold RD at h⊢;rw[<- h];exact k.block R this hne
theorem RD.sD {R N:Nat}{s:Bs}{w:World}(h:RD R s w)(i:Nat)(v:Value)(hne:R≠N):RD R s (w.setCell ⟨N,i,none⟩ v):=by
 unfold RD at h⊢;rw[<- h];exact Below.heap_setCell w _ v R hne
theorem aY.set (N:Nat)(i:Nat)(w:World)(v:Value):aY N w (w.setCell ⟨N,i,none⟩ v):=by
 have hs:=(Below.refl N w).setCell (p:=⟨N,i,none⟩) eU v;exact⟨hs.os,hs.tape,hs.output,hs.size,fun k _ hb=>Below.heap_setCell _ _ _ k hb⟩
theorem bH {R B k n:Nat}{e:TypeId}{v:Value}{xs:List Value}{w w':World}(h:w.ownsRow B e k v n xs)(hk:aY R w w')(hR:R<B):w'.ownsRow B e k v n xs:=
 h.kept hk.grown (.inr fun e=>by have:=(h.lt R e).1;omega)
theorem T9 (w:World)(a b:Value)(t:TypeId):∀j u,[a,b][j]? =some u->(w.alloc (.cells #[a,b] t)).cell? ((⟨w.heap.size,0,none⟩:Addr).add j)=some u:=by
 intro j u h;have e:(⟨w.heap.size,0,none⟩:Addr).add j=⟨w.heap.size,j,none⟩:=by unfold Addr.add;split<;>simp_all
 rw[e];exact gp w #[a,b] t j u (by simpa using h)
theorem pE {w:World}{B:Nat}{e:TypeId}{k:Nat}{v:Value}{n:Nat}{xs:List Value}(h:w.ownsRow B e k v n xs):∃o cap,v=.slice o n cap:=by
 obtain⟨o,cap,h1, -⟩:=bA h;exact⟨o,cap,h1⟩
end
section
open Go.RowKit
theorem nodeInfo:(prog.info? 25).map (fun i=>(i.zero,i.size,i.bytes))=some (some (.agg #[.string ⟨#[]⟩,.slice none 0 0,.slice none 0 0]),3,64):=by kernel_rfl
end
section
open Go.RowKit
theorem NB.ny {Z R N:Nat}{c0 c1 c2:Value}{w w':World}(h:NB Z c0 c1 c2 w)(k:aP R N w w')(h1:Z≠R)(h2:Z≠N):NB Z c0 c1 c2 w':=by
 have:=h.lt;unfold NB at h⊢;rw[k.block Z this h1 h2];exact h
theorem aY.a4N {R Z:Nat}{W w:World}(h:aY R W w)(hZ:W.heap.size<=Z)(i:Nat)(v:Value):aY R W (w.setCell ⟨Z,i,none⟩ v):=
 h.low ((Below.refl _ w).setCell (p:=⟨Z,i,none⟩) hZ v)
abbrev XN (Z:Nat)(a b c:Value)(w:World):World:=((w.setCell ⟨Z,0,none⟩ a).setCell ⟨Z,1,none⟩ b).setCell ⟨Z,2,none⟩ c
theorem rq {R Z:Nat}{W w:World}(h:aY R W w)(hZ:W.heap.size<=Z)(a b c:Value):aY R W (XN Z a b c w):=((h.a4N hZ _ _).a4N hZ _ _).a4N hZ _ _
theorem XO {R Z U:Nat}{W w:World}{nm:Bs}{vA vK:Value}{ats:List (Bs×Bs)}{K:List V3}{ks:List Nd}{z:Bs}(hl:nm.length<=maxLen)(Jn:∀x∈ats,x.1.length<=maxLen/\x.2.length<=maxLen)
  (ow:w.ownsRow U 65 2 vA ats.length (aF ats)) (owK:w.ownsRow U 25 3 vK K.length (cZ K)) (hk:KR (fun b=>U<=b) w K ks) (rd:RD R z w) (hZ:W.heap.size<=Z) (hU:Z<U) (zi:R≠Z):
  RD R z (XN Z (.string ⟨nm.toArray⟩) vA vK w)/\mY (fun b=>W.heap.size<=b) (XN Z (.string ⟨nm.toArray⟩) vA vK w) (.string ⟨nm.toArray⟩) vA vK (.mk nm ats ks):=by
 refine⟨((rd.sD _ _ zi).sD _ _ zi).sD _ _ zi,?_⟩;refine mY.turn (Q:=fun b=>U<=b) (w:=w) (fun b hb _=>⟨by omega,?_⟩) _ (mY.make hl (xH.turn (xH.XA ow Jn) (fun b hb _=>⟨(ow.lt b hb).1,rfl⟩)) owK hk (fun b hb=>(owK.lt b hb).1));have hbz:b≠Z:=by omega
 rw[Below.heap_setCell _ _ _ b hbz,Below.heap_setCell _ _ _ b hbz,Below.heap_setCell _ _ _ b hbz]
end
end Go.Proofs.YtjfiehbcamfdfaaGreatDoor

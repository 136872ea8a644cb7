/- Parts of the proof. -/
import Derived.Test.YtecneflbncjhpaaGreatDoorQp36
import Derived.Test.YtecneflbncjhpaaGreatDoorQp37
namespace Go.Proofs.YtecneflbncjhpaaGreatDoor
open Go.Proofs.Tryz
set_option maxHeartbeats 4000000
section
def eB (c:UInt8):Bool:=c==32||c==61||c==34||c==60||c==62||c==47
def mB (c:UInt8):Bool:=c==60||c==62||c==38||c==34
def iZ (s:Bs):Bs:=s.takeWhile (fun c=> !eB c)
def uJ (s:Bs):Bs:=s.dropWhile (fun c=> !eB c)
def Vb (s:Bs):Bs:=s.takeWhile (fun c=> !mB c)
def Jf (s:Bs):Bs:=s.dropWhile (fun c=> !mB c)
def Gq (u:Bs):Option (UInt8×Bs):=
 if[38,108,116,59].isPrefixOf u=true then some (60,u.drop 4)
 else if[38,103,116,59].isPrefixOf u=true then some (62,u.drop 4)
 else if[38,97,109,112,59].isPrefixOf u=true then some (38,u.drop 5)
 else if[38,113,117,111,116,59].isPrefixOf u=true then some (34,u.drop 6)
 else none
def DK (a:Bs):Option (Bs×Bs)->Option (Bs×Bs)
 |none=>none
 |some p=>some (a++p.1,p.2)
def xm:Nat->Bs->Option (Bs×Bs)
 |0,_=>none
 |f+1,s=>if[34].isPrefixOf (Jf s)=true then some (Vb s,(Jf s).drop 1) else match Gq (Jf s) with
  |none=>none
  |some p=>DK (Vb s++[p.1]) (xm f p.2)
def yD (a:List (Bs×Bs)):Option (List (Bs×Bs)×Bs)->Option (List (Bs×Bs)×Bs)
 |none=>none
 |some p=>some (a++p.1,p.2)
def nN (r:Bs):Option ((Bs×Bs)×Bs):=
 if iZ r=[] then none
 else if[61,34].isPrefixOf (uJ r)=true then match xm (((uJ r).drop 2).length+1) ((uJ r).drop 2) with
  |none=>none
  |some p=>some ((iZ r,p.1),p.2)
 else none
def uK:Nat->Bs->Option (List (Bs×Bs)×Bs)
 |0,_=>none
 |f+1,s=>if[32].isPrefixOf s=true then match nN (s.drop 1) with
   |none=>none
   |some p=>yD [p.1] (uK f p.2)
  else some ([],s)
def vG (a:List Nd):Option (List Nd×Bs)->Option (List Nd×Bs)
 |none=>none
 |some p=>some (a++p.1,p.2)
def vH (el:Bs->Option (Nd×Bs)):Nat->Bs->Option (List Nd×Bs)
 |0,_=>none
 |f+1,s=>if[60].isPrefixOf s=true/\[60,47].isPrefixOf s=false then match el s with
   |none=>none
   |some p=>vG [p.1] (vH el f p.2)
  else some ([],s)
def yE (nm:Bs):Bs:=[60,47]++nm++[62]
def kT:Nat->Bs->Option (Nd×Bs)
  |0,_=>none
  |f+1,s=>if[60].isPrefixOf s=true then
      if iZ (s.drop 1)=[] then none
      else match uK ((uJ (s.drop 1)).length+1) (uJ (s.drop 1)) with
        |none=>none
        |some a=>if[47,62].isPrefixOf a.2=true then some (.mk (iZ (s.drop 1)) a.1 [],a.2.drop 2)
          else if[62].isPrefixOf a.2=true then match vH (kT f) ((a.2.drop 1).length+1) (a.2.drop 1) with
            |none=>none
            |some k=>if(yE (iZ (s.drop 1))).isPrefixOf k.2=true then some (.mk (iZ (s.drop 1)) a.1 k.1,k.2.drop (yE (iZ (s.drop 1))).length) else none
          else none
    else none
theorem Zi (o:Option (Bs×Bs)):DK [] o=o:=by cases o<;>rfl
theorem Zj (a b:Bs)(o:Option (Bs×Bs)):DK a (DK b o)=DK (a++b) o:=by cases o<;>simp[DK]
theorem Zk (o:Option (List (Bs×Bs)×Bs)):yD [] o=o:=by cases o<;>rfl
theorem Zl (a b:List (Bs×Bs))(o:Option (List (Bs×Bs)×Bs)):yD a (yD b o)=yD (a++b) o:=by cases o<;>simp[yD]
theorem Zm (o:Option (List Nd×Bs)):vG [] o=o:=by cases o<;>rfl
theorem Zn (a b:List Nd)(o:Option (List Nd×Bs)):vG a (vG b o)=vG (a++b) o:=by cases o<;>simp[vG]
theorem Gr (P:UInt8->Bool)(s:Bs):(s.takeWhile P).length+(s.dropWhile P).length=s.length:=by
 rw[<- List.length_append,List.takeWhile_append_dropWhile]
theorem Ah (s:Bs):(iZ s).length+(uJ s).length=s.length:=Gr _ s
theorem Rx (s:Bs):(Vb s).length+(Jf s).length=s.length:=Gr _ s
theorem iA {w s:Bs}(h:w.isPrefixOf s=true):w.length+(s.drop w.length).length=s.length:=by
 have:=(List.isPrefixOf_iff_prefix.1 h).length_le;rw[List.length_drop];omega
theorem Ry {u:Bs}{c:UInt8}{r:Bs}(h:Gq u=some (c,r)):r.length+4<=u.length:=by
 unfold Gq at h;split at h
 ·rename_i k;cases h;have:=iA k;simp at this⊢;omega
 split at h
 ·rename_i k;cases h;have:=iA k;simp at this⊢;omega
 split at h
 ·rename_i k;cases h;have:=iA k;simp at this⊢;omega
 split at h
 ·rename_i k;cases h;have:=iA k;simp at this⊢;omega
 ·cases h
theorem Vd {a:Bs}{o:Option (Bs×Bs)}{p:Bs×Bs}(h:DK a o=some p):∃q,o=some q/\p=(a++q.1,q.2):=by
 cases o with
 |none=>cases h
 |some q=>cases h;exact⟨q,rfl,rfl⟩
theorem Ve {a:List (Bs×Bs)}{o:Option (List (Bs×Bs)×Bs)}{p:List (Bs×Bs)×Bs}(h:yD a o=some p):∃q,o=some q/\p=(a++q.1,q.2):=by
 cases o with
 |none=>cases h
 |some q=>cases h;exact⟨q,rfl,rfl⟩
theorem Vf {a:List Nd}{o:Option (List Nd×Bs)}{p:List Nd×Bs}(h:vG a o=some p):∃q,o=some q/\p=(a++q.1,q.2):=by
 cases o with
 |none=>cases h
 |some q=>cases h;exact⟨q,rfl,rfl⟩
theorem J2:∀(f:Nat) (s:Bs) (p:Bs×Bs),xm f s=some p->p.1.length+p.2.length+1<=s.length
 |0,_,_,h=>by cases h
 |f+1,s,p,h=>by
  have ht:=Rx s;rw[xm] at h;split at h
  ·rename_i k;cases h;have:=iA k;simp at this⊢;omega
  ·cases hm:Gq (Jf s) with
   |none=>rw[hm] at h;cases h
   |some q=>
    rw[hm] at h;obtain⟨q',hq,rfl⟩:=Vd h;have h1:=J2 f _ _ hq;have h2:=Ry hm;simp;omega
theorem Zo {r:Bs}{p:(Bs×Bs)×Bs}(h:nN r=some p):p.1.1.length+p.1.2.length+p.2.length+3<=r.length:=by
 unfold nN at h;have ht:=Ah r;split at h
 ·cases h
 split at h
 ·rename_i k;have hl:=iA k;split at h
  ·cases h
  ·rename_i q hq;cases h;have:=J2 _ _ _ hq;simp at hl this⊢;omega
 ·cases h
theorem J3:∀(f:Nat) (s:Bs) (p:List (Bs×Bs)×Bs),uK f s=some p->p.2.length+4*p.1.length<=s.length/\∀a∈p.1,a.1.length<=s.length/\a.2.length<=s.length
 |0,_,_,h=>by cases h
 |f+1,s,p,h=>by
  rw[uK] at h;split at h
  ·rename_i k;have hl:=iA k;split at h
   ·cases h
   ·rename_i q hq;have h1:=Zo hq;obtain⟨q',hq',rfl⟩:=Ve h;have h2:=J3 f _ _ hq';simp at hl h1;refine⟨by simp;omega,fun a ha=>?_⟩;simp at ha;rcases ha with rfl|ha
    ·omega
    ·have:=h2.2 a ha;omega
  ·cases h;simp
theorem Rz {el:Bs->Option (Nd×Bs)}(hel:∀s p,el s=some p->p.2.length+1<=s.length):∀(f:Nat) (s:Bs) (p:List Nd×Bs),vH el f s=some p->p.2.length+p.1.length<=s.length
 |0,_,_,h=>by cases h
 |f+1,s,p,h=>by
  rw[vH] at h;split at h
  ·split at h
   ·cases h
   ·rename_i q hq;have h1:=hel _ _ hq;obtain⟨q',hq',rfl⟩:=Vf h;have h2:=Rz hel f _ _ hq';simp;omega
  ·cases h;simp
theorem RH:∀(f:Nat) (s:Bs) (p:Nd×Bs),kT f s=some p->p.2.length+1<=s.length
 |0,_,_,h=>by cases h
 |f+1,s,p,h=>by
  rw[kT] at h;split at h
  ·rename_i k;have hl:=iA k;have ht:=Ah (s.drop 1);split at h
   ·cases h
   split at h
   ·cases h
   ·rename_i a ha;have h1:=(J3 _ _ _ ha).1;split at h
    ·cases h;simp at hl ht h1⊢;omega
    split at h
    ·split at h
     ·cases h
     ·rename_i q hq;have h2:=Rz (RH f) _ _ _ hq;split at h
      ·cases h;simp at hl ht h1 h2⊢;omega
      ·cases h
    ·cases h
  ·cases h
end
section
open Go.RowKit
def yF (Q:Nat->Prop)(w:ag)(v:ah)(ats:List (Bs×Bs)):Prop:=∃o cap,v=.slice o ats.length cap/\ats.length<=cap/\cap<=maxLen/\(o=none->cap=0)/\∀i x,ats[i]? =some x->∃b off,Q b/\o=some ⟨b,off,none⟩/\w.cell? (ak b (off+i*2))=some (gT x.1)/\w.cell? (ak b (off+i*2+1))=some (gT x.2)/\x.1.length<=maxLen/\x.2.length<=maxLen
mutual
def oJ (Q:Nat->Prop)(w:ag)(c0 c1 c2:ah):Nd->Prop
 | .mk nm ats ks=>c0=gT nm/\nm.length<=maxLen/\yF Q w c1 ats/\∃o cap,c2=.slice o ks.length cap/\ks.length<=cap/\cap<=maxLen/\(o=none->cap=0)/\qK Q w o 0 ks
def qK (Q:Nat->Prop)(w:ag)(o:Option Addr)(i:Nat):List Nd->Prop
 |[]=>True
 |k::l=>(∃b off c0 c1 c2,Q b/\o=some ⟨b,off,none⟩/\w.cell? (ak b (off+i*3))=some c0/\w.cell? (ak b (off+i*3+1))=some c1/\w.cell? (ak b (off+i*3+2))=some c2/\oJ Q w c0 c1 c2 k)/\qK Q w o (i+1) l
end
theorem yF.ats {Q:Nat->Prop}{w:ag}{v:ah}{ats:List (Bs×Bs)}(h:yF Q w v ats):mY w v ats:=by
 obtain⟨o,cap,h1,h2,h3,h4,h5⟩:=h;refine⟨o,cap,h1,h2,h3,h4,fun i x hx=>?_⟩;obtain⟨b,off, -,h6⟩:=h5 i x hx;exact⟨b,off,h6⟩
mutual
theorem oJ.nd {Q:Nat->Prop}{w:ag}:∀{c0 c1 c2:ah} (n:Nd),oJ Q w c0 c1 c2 n->nG w c0 c1 c2 n
 |_,_,_,.mk _ _ ks,h=>by
  unfold oJ at h;unfold nG;obtain⟨h1,h2,h3,o,cap,h4,h5,h6,h8,h7⟩:=h;exact⟨h1,h2,h3.ats,o,cap,h4,h5,h6,h8,qK.kds ks h7⟩
theorem qK.kds {Q:Nat->Prop}{w:ag}:∀{o:Option Addr} {i:Nat} (l:List Nd),qK Q w o i l->jV w o i l
 |_,_,[],_=>by unfold jV;trivial
 |_,_,k::l,h=>by
  unfold qK at h;unfold jV;obtain⟨⟨b,off,c0,c1,c2, -,h1,h2,h3,h4,h5⟩,h6⟩:=h;exact⟨⟨b,off,c0,c1,c2,h1,h2,h3,h4,oJ.nd k h5⟩,qK.kds l h6⟩
end
def Vg (Q Q':Nat->Prop)(w w':ag):Prop:=∀b,Q b->b<w.heap.size->Q' b/\w'.heap[b]? =w.heap[b]?
theorem Vg.cell {Q Q':Nat->Prop}{w w':ag}(h:Vg Q Q' w w'){b i:Nat}{v:ah}(hq:Q b)(hc:w.cell? (ak b i)=some v):w'.cell? (ak b i)=some v:=by
 rw[World.cell?_of_block (h b hq (az hc)).2];exact hc
theorem yF.turn {Q Q':Nat->Prop}{w w':ag}{v:ah}{ats:List (Bs×Bs)}(h:yF Q w v ats)(t:Vg Q Q' w w'):yF Q' w' v ats:=by
 obtain⟨o,cap,h1,h2,h3,h4,h5⟩:=h;refine⟨o,cap,h1,h2,h3,h4,fun i x hx=>?_⟩;obtain⟨b,off,hq,h6,h7,h8,h9⟩:=h5 i x hx;exact⟨b,off,(t b hq (az h7)).1,h6,t.cell hq h7,t.cell hq h8,h9⟩
mutual
theorem oJ.turn {Q Q':Nat->Prop}{w w':ag}(t:Vg Q Q' w w'):∀{c0 c1 c2:ah} (n:Nd),oJ Q w c0 c1 c2 n->oJ Q' w' c0 c1 c2 n
 |_,_,_,.mk _ _ ks,h=>by
  unfold oJ at h⊢;obtain⟨h1,h2,h3,o,cap,h4,h5,h6,h8,h7⟩:=h;exact⟨h1,h2,h3.turn t,o,cap,h4,h5,h6,h8,qK.turn t ks h7⟩
theorem qK.turn {Q Q':Nat->Prop}{w w':ag}(t:Vg Q Q' w w'):∀{o:Option Addr} {i:Nat} (l:List Nd),qK Q w o i l->qK Q' w' o i l
 |_,_,[],_=>by unfold qK;trivial
 |_,_,k::l,h=>by
  unfold qK at h⊢;obtain⟨⟨b,off,c0,c1,c2,hq,h1,h2,h3,h4,h5⟩,h6⟩:=h;exact⟨⟨b,off,c0,c1,c2,(t b hq (az h2)).1,h1,t.cell hq h2,t.cell hq h3,t.cell hq h4,oJ.turn t k h5⟩,qK.turn t l h6⟩
end
theorem yF.Zp {w:ag}{B:Nat}{v:ah}{ats:List (Bs×Bs)}(h:w.ownsRow B 100 2 v ats.length (bJ ats))(hl:∀x∈ats,x.1.length<=maxLen/\x.2.length<=maxLen):yF (fun b=>v.ownBlock=some b) w v ats:=by
 obtain⟨o,cap,h1,h2,h3,h4,h5⟩:=dL h;refine⟨o,cap,h1,h2,h3,h4,fun i x hx=>?_⟩;obtain⟨c0,c1⟩:=vo ats i x hx;obtain⟨g,hg,e0⟩:=dF h _ _ c0;obtain⟨g',hg',e1⟩:=dF h _ _ c1;obtain rfl:g=g':=by rw[hg] at hg';cases hg';rfl
 exact⟨g,0,hg,h5 g hg,by rw[Nat.zero_add];exact e0,by rw[Nat.zero_add];exact e1,hl x (fV hx)⟩
abbrev V3:=ah×ah×ah
def dJ:List V3->List ah
 |[]=>[]
 |x::r=>[x.1,x.2.1,x.2.2]++dJ r
theorem uL:∀a c:List V3,dJ (a++c)=dJ a++dJ c
 |[],_=>rfl
 |x::a,c=>by simp[dJ,uL a c]
theorem zK (a:List V3)(x:V3):dJ (a++[x])=dJ a++[x.1,x.2.1,x.2.2]:=by rw[uL];simp[dJ]
theorem DL:∀(M:List V3) (i:Nat) (x:V3),M[i]? =some x->(dJ M)[i*3]? =some x.1/\(dJ M)[i*3+1]? =some x.2.1/\(dJ M)[i*3+2]? =some x.2.2
 |[],i,x,h=>by simp at h
 |y::r,0,x,h=>by
  simp at h;subst h;exact⟨rfl,rfl,rfl⟩
 |y::r,i+1,x,h=>by
  have:=DL r i x (by simpa using h);rw[show(i+1)*3=i*3+1+1+1 from by omega,show i*3+1+1+1+1=(i*3+1)+1+1+1 from rfl,show i*3+1+1+1+2=(i*3+2)+1+1+1 from rfl];simp only[dJ,List.cons_append,List.nil_append,List.getElem?_cons_succ];exact this
def KR (Q:Nat->Prop)(w:ag):List V3->List Nd->Prop
 |[],[]=>True
 |x::r,n::l=>oJ Q w x.1 x.2.1 x.2.2 n/\KR Q w r l
 |_,_=>False
theorem KR.len {Q:Nat->Prop}{w:ag}:∀{a:List V3} {l:List Nd},KR Q w a l->a.length=l.length
 |[],[],_=>rfl
 |_::_,_::_,h=>by simp[KR.len h.2]
 |[],_::_,h=>h.elim
 |_::_,[],h=>h.elim
theorem KR.turn {Q Q':Nat->Prop}{w w':ag}(t:Vg Q Q' w w'):∀{a:List V3} {l:List Nd},KR Q w a l->KR Q' w' a l
 |[],[],_=>trivial
 |_::_,_::_,h=>⟨oJ.turn t _ h.1,KR.turn t h.2⟩
 |[],_::_,h=>h.elim
 |_::_,[],h=>h.elim
theorem KR.snoc {Q:Nat->Prop}{w:ag}:∀{a:List V3} {l:List Nd} {x:V3} {n:Nd},KR Q w a l->oJ Q w x.1 x.2.1 x.2.2 n->KR Q w (a++[x]) (l++[n])
 |[],[],_,_,_,h=>⟨h,trivial⟩
 |_::_,_::_,_,_,h,k=>⟨h.1,KR.snoc h.2 k⟩
 |[],_::_,_,_,h,_=>h.elim
 |_::_,[],_,_,h,_=>h.elim
theorem KR.get {Q:Nat->Prop}{w:ag}:∀{a:List V3} {l:List Nd} {i:Nat} {n:Nd},KR Q w a l->l[i]? =some n->∃x,a[i]? =some x/\oJ Q w x.1 x.2.1 x.2.2 n
 |[],[],_,_,_,h=>by simp at h
 |x::_,_::_,0,_,h,hx=>by simp at hx;subst hx;exact⟨x,rfl,h.1⟩
 |_::r,_::l,i+1,n,h,hx=>by
  obtain⟨x,h1,h2⟩:=KR.get (a:=r) (l:=l) (i:=i) (n:=n) h.2 (by simpa using hx);exact⟨x,by simpa using h1,h2⟩
 |[],_::_,_,_,h,_=>h.elim
 |_::_,[],_,_,h,_=>h.elim
theorem RI {Q:Nat->Prop}{w:ag}{o:Option Addr}:∀{l:List Nd} {i:Nat},(∀j k,l[j]? =some k->∃b off c0 c1 c2,Q b/\o=some ⟨b,off,none⟩/\w.cell? (ak b (off+(i+j)*3))=some c0/\w.cell? (ak b (off+(i+j)*3+1))=some c1/\w.cell? (ak b (off+(i+j)*3+2))=some c2/\oJ Q w c0 c1 c2 k)->qK Q w o i l
 |[],_,_=>by unfold qK;trivial
 |k::l,i,h=>by
  unfold qK;refine⟨h 0 k rfl,RI fun j k' hk=>?_⟩;have:=h (j+1) k' (by simpa using hk);rw[show i+(j+1)=i+1+j from by omega] at this;exact this
theorem oJ.make {Q:Nat->Prop}{w:ag}{B:Nat}{nm:Bs}{cA vK:ah}{ats:List (Bs×Bs)}{K:List V3}{ks:List Nd}(hl:nm.length<=maxLen)(ha:yF Q w cA ats)(hk:w.ownsRow B 36 3 vK K.length (dJ K))(hr:KR Q w K ks)(hq:∀b,vK.ownBlock=some b->Q b):oJ Q w (.string ⟨nm.toArray⟩) cA vK (.mk nm ats ks):=by
 unfold oJ;have hlen:=hr.len;obtain⟨o,cap,h1,h2,h3,h4,h5⟩:=dL hk;refine⟨rfl,hl,ha,o,cap,by rw[<- hlen];exact h1,by omega,h3,h4,RI fun j k hj=>?_⟩;obtain⟨x,hx,hn⟩:=hr.get hj;obtain⟨c0,c1,c2⟩:=DL K j x hx;obtain⟨g,hg,e0⟩:=dF hk _ _ c0;obtain⟨g',hg',e1⟩:=dF hk _ _ c1;obtain rfl:g=g':=by rw[hg] at hg';cases hg';rfl
 obtain⟨g',hg',e2⟩:=dF hk _ _ c2;obtain rfl:g=g':=by rw[hg] at hg';cases hg';rfl
 rw[Nat.zero_add];exact⟨g,0,_,_,_,hq g hg,h5 g hg,by rw[Nat.zero_add];exact e0,by rw[Nat.zero_add];exact e1,by rw[Nat.zero_add];exact e2,hn⟩
structure bA (r n:Nat)(W w:ag):Prop where
 os:w.os=W.os
 tape:w.tape=W.tape
 output:w.output=W.output
 size:W.heap.size<=w.heap.size
 block:∀k,k<W.heap.size->k≠r->k≠n->w.heap[k]? =W.heap[k]?
theorem bA.trans {r n:Nat}{A B C:ag}(h:bA r n A B)(k:bA r n B C):bA r n A C:=
 ⟨k.os.trans h.os,k.tape.trans h.tape,k.output.trans h.output,aJ h.size k.size,fun i hi h1 h2=>(k.block i (bI hi h.size) h1 h2).trans (h.block i hi h1 h2)⟩
theorem bA.gL {r n:Nat}{A B:ag}(h:bO r A B):bA r n A B:=⟨h.os,h.tape,h.output,h.size,fun i hi h1 _=>h.block i hi h1⟩
theorem bA.of_below {r n:Nat}{A B:ag}(h:Below A.heap.size A B):bA r n A B:=⟨h.os,h.tape,h.output,h.size,fun i hi _ _=>h.block i hi⟩
theorem bA.tX {r n:Nat}(A:ag)(i:Nat)(v:ah):bA r n A (A.setCell ⟨n,i,none⟩ v):=by
 have hs:=(aG n A).setCell (p:=⟨n,i,none⟩) ai v;exact⟨hs.os,hs.tape,hs.output,hs.size,fun k _ _ hb=>aY _ _ _ k hb⟩
theorem bA.keep {r n:Nat}{A B C:ag}(h:bO r A B)(k:bA r n B C)(hn:A.heap.size<=n):bO r A C:=
 ⟨k.os.trans h.os,k.tape.trans h.tape,k.output.trans h.output,aJ h.size k.size,fun i hi h1=>(k.block i (bI hi h.size) h1 (by omega)).trans (h.block i hi h1)⟩
theorem bA.grown {r n:Nat}{A B C:ag}{g:Option Nat}(h:bA r n A B)(k:B.grownBy C g)(hg:∀b,g=some b->A.heap.size<=b):bA r n A C:=
 ⟨k.os.trans h.os,k.tape.trans h.tape,k.output.trans h.output,aJ h.size k.size,fun i hi h1 h2=>(k.block i (bI hi h.size) (fun e=>by have:=hg i e.symm;omega)).trans (h.block i hi h1 h2)⟩
theorem bO.al {b:Nat}{A B:ag}(h:bO b A B)(o:Obj):bO b A (B.alloc o):=h.trans (bO.of_below (bT B o))
def RD (R:Nat)(s:Bs)(w:ag):Prop:=w.heap[R]? =some (.cells #[.string ⟨s.toArray⟩] 51)
theorem RD.cell {R:Nat}{s:Bs}{w:ag}(h:RD R s w):w.cell? (ak R 0)=some (.string ⟨s.toArray⟩):=aD h 0 _ rfl
theorem RD.di {R:Nat}{s:Bs}{w:ag}(h:RD R s w):w.frozen? ⟨R,0,none⟩=false:=by
 unfold RD at h;unfold World.frozen?;rw[h];rfl
theorem RD.lt {R:Nat}{s:Bs}{w:ag}(h:RD R s w):R<w.heap.size:=aI h
theorem RD.set {R:Nat}{s t:Bs}{w:ag}(h:RD R s w):RD R t (w.setCell ⟨R,0,none⟩ (.string ⟨t.toArray⟩)):=by
 unfold RD at h⊢;rw[heap_setCell_same w R 0 _ _ _ h];rfl
theorem RD.al {R:Nat}{s:Bs}{w:ag}(h:RD R s w)(o:Obj):RD R s (w.alloc o):=by
 have:=h.lt;unfold RD at h⊢;rw[<- h];exact(bT w o).block R this
end
section
open Go.RowKit
set_option maxRecDepth 20000
def a2R (wd s:Bs):Bs:=if wd.isPrefixOf s=true then s.drop wd.length else s
theorem rU {wd s:Bs}(h:wd.isPrefixOf s=true):a2R wd s=s.drop wd.length:=if_pos h
theorem xq {wd s:Bs}(h:wd.isPrefixOf s=false):a2R wd s=s:=if_neg (by rw[h];simp)
theorem J4 (s p:Bs)(w:ag):au 64 #[.string ⟨s.toArray⟩,.string ⟨p.toArray⟩] w fun e w'=>e=.returned (.tuple #[.string ⟨(a2R p s).toArray⟩,.bool (p.isPrefixOf s)])/\w'=w:=by
 have:=Tryz.strings_CutPrefix ⟨s.toArray⟩ ⟨p.toArray⟩ w;exact this
theorem jq (R:Nat)(s wd:Bs)(W:ag)(h:RD R s W):au 33 #[ay R,.string ⟨wd.toArray⟩] W fun e w'=>e=.returned (.bool (wd.isPrefixOf s))/\RD R (a2R wd s) w'/\bO R W w':=by
 have c:=h.cell;have f:=h.di;go_enter func33,ntmps33;go_wp2_with(go_at_call 64;refine(J4 s wd _).mono ?_;rintro e w1 ⟨rfl,rfl⟩);go_ret;exact⟨rfl,h.set,(bO.of_below (aG _ _)).setCell _⟩
theorem kF (ends:Bs)(W:ag):au 35 #[.string ⟨ends.toArray⟩] W fun e w'=>e=.returned (.func (.func 65) #[] #[ay W.heap.size])/\w'=W.alloc (.cells #[.string ⟨ends.toArray⟩] 9):=by
 go_enter func35,ntmps35;go_wp2;go_ret;exact⟨rfl,rfl⟩
def PY (ends:Bs)(c:UInt8):Bool:=decide (Lib.indexByte ends c<0)
theorem Zq (ends:Bs)(c:UInt8):PY ends c= !(ends.any (fun b=>b==c)):=by
 unfold PY
 induction ends with
 |nil=>rfl
 |cons b l ih=>
  have hr: -1<=Lib.indexByte l c:=by
   clear ih
   induction l with
   |nil=>exact Int.le_refl _
   |cons d l ih=>unfold Lib.indexByte;split;decide;split;decide;omega
  rw[List.any_cons];unfold Lib.indexByte;by_cases hb:(b==c)=true
  ·rw[if_pos hb,hb];rfl
  ·rw[if_neg hb,Bool.eq_false_iff.2 hb,Bool.false_or,<- ih];by_cases h1:(Lib.indexByte l c== -1)=true
   ·rw[if_pos h1,eq_of_beq h1]
   ·rw[if_neg h1];have:Lib.indexByte l c≠-1:=fun e=>h1 (by rw[e];rfl);rw[decide_eq_false (by omega),decide_eq_false (by omega)]
theorem aaJ:PY [32,61,34,60,62,47]=fun c=> !eB c:=by
 funext c;rw[Zq];simp[eB,Bool.beq_comm,Bool.or_assoc]
theorem aaK:PY [60,62,38,34]=fun c=> !mB c:=by
 funext c;rw[Zq];simp[mB,Bool.beq_comm,Bool.or_assoc]
theorem J5 (ends:Bs)(c:UInt8)(w:ag):au 66 #[.string ⟨ends.toArray⟩,.int .u8 c.toNat] w fun e w'=>e=.returned (aa (Lib.indexByte ends c))/\w'=w:=by
 have:=Tryz.strings_IndexByte ⟨ends.toArray⟩ c.toNat w;rw[show((c.toNat:Int)).toNat.toUInt8=c from by simp] at this;exact this
theorem MP (ends:Bs)(c:UInt8)(B:Nat)(W:ag)(h:W.cell? (ak B 0)=some (.string ⟨ends.toArray⟩)):au 65 #[.int .u8 c.toNat,ay B] W fun e w'=>e=.returned (.bool (PY ends c))/\w'=W:=by
 go_enter func65,ntmps65;go_wp2_with(go_at_call 66;refine(J5 ends c _).mono ?_;rintro e w1 ⟨rfl,rfl⟩);go_ret;exact⟨rfl,rfl⟩
theorem RJ {P:UInt8->Bool}{s:Bs}{i:Nat}(h:∀j c,j<i->s[j]? =some c->P c=true)(he:∀c,s[i]? =some c->P c=false):s.takeWhile P=s.take i/\s.dropWhile P=s.drop i:=by
 have h1:∀c∈s.take i,P c=true:=fun c hc=>by
  obtain⟨j,hj⟩:=List.mem_iff_getElem?.1 hc;rw[List.getElem?_take] at hj;split at hj
  ·exact h j c (by assumption) hj
  ·cases hj
 have h2:(s.drop i).takeWhile P=[]/\(s.drop i).dropWhile P=s.drop i:=by
  cases hd:s.drop i with
  |nil=>exact⟨rfl,rfl⟩
  |cons c r=>
   have:s[i]? =some c:=by have:=congrArg List.head? hd;simpa using this
   have:=he c this;exact⟨List.takeWhile_cons_of_neg (by simp[this]),List.dropWhile_cons_of_neg (by simp[this])⟩
 have e:s=s.take i++s.drop i:=(List.take_append_drop i s).symm;constructor
 ·conv=>lhs;rw[e]
  rw[List.takeWhile_append_of_pos h1,h2.1,List.append_nil]
 ·conv=>lhs;rw[e]
  rw[List.dropWhile_append_of_pos h1,h2.2]
theorem a6P (s:Bs)(i:Nat)(h:i<(⟨s.toArray⟩:aC).size):s[i]? =some ((⟨s.toArray⟩:aC)[i]):=by
 rw[<- Lc ⟨s.toArray⟩ i h];exact dK _
theorem RQ (s:Bs)(i:Nat):(⟨s.toArray⟩:aC).extract 0 i=⟨(s.take i).toArray⟩:=by
 have h:=Lib.extract_data ⟨s.toArray⟩ 0 i;cases he:(⟨s.toArray⟩:aC).extract 0 i with
 |mk d=>
  rw[he] at h;simp at h;rw[<- h]
theorem a2S (s:Bs)(i:Nat):(⟨s.toArray⟩:aC).extract i s.length=⟨(s.drop i).toArray⟩:=by
 have h:=Lib.extract_to_end ⟨s.toArray⟩ i;rw[fU] at h;cases he:(⟨s.toArray⟩:aC).extract i s.length with
 |mk d=>
  rw[he] at h;simp at h;rw[<- h]
theorem MR (R:Nat)(s ends:Bs)(B:Nat)(W:ag)(h:RD R s W)(hB:W.heap[B]? =some (.cells #[.string ⟨ends.toArray⟩] 9))(hl:s.length<=100000):
  au 34 #[ay R,.func (.func 65) #[] #[ay B]] W fun e w'=>e=.returned (.string ⟨(s.takeWhile (PY ends)).toArray⟩)/\RD R (s.dropWhile (PY ends)) w'/\bO R W w':=by
 have c:=h.cell;have f:=h.di;have hb:=aD hB 0 _ rfl;have hsz:=fU s;go_enter func34,ntmps34;go_wp2_with fail
 go_loopw [5] (fun y wr=>∃i:Nat,y=aa i/\i<=s.length/\(∀j c,j<i->s[j]? =some c->PY ends c=true)/\wr=W) (fun y _=>s.length-(intOf y).toNat)
 case atStart=>exact⟨0,rfl,aP _,fun j _ h=>absurd h (Nat.not_lt_zero _),rfl⟩
 case round=>
  obtain⟨i,rfl,hi,hsm,rfl⟩:=hrel;have HS:=aj hsm;clear hsm;by_cases hlt:i<s.length
  ·have hlt':(i:Int)<(s.length:Int):=by omega
   have hget:=a6P s i (by rw[hsz];exact hlt);have hlt2:i<(⟨s.toArray⟩:aC).size:=by rw[hsz];exact hlt
   obtain⟨c1,hc1⟩:∃c1,(⟨s.toArray⟩:aC)[i]=c1:=⟨_,rfl⟩;rw[hc1] at hget;cases hft:PY ends c1 with
   |true=>
    have HN:Hid (∀j c,j<i+1->s[j]? =some c->PY ends c=true):=(fun j c hj hc=>by
     by_cases e:j<i
     ·exact HS.out j c e hc
     ·obtain rfl:j=i:=by omega
      rw[hget] at hc;cases hc;exact hft:∀j c,j<i+1->s[j]? =some c->PY ends c=true)
    have HF:=MP ends c1 B wr hb;rw[hft] at HF;clear hget hft;go_wp2_with(go_at_call 65;refine HF.mono ?_;rintro e w1 ⟨rfl,rfl⟩)
    go_roundw
    case rel=>exact⟨i+1,by go_num,by omega,HN.out,trivial⟩
    case measure=>simp[intOf];omega
   |false=>
    have HT:Hid (s.takeWhile (PY ends)=s.take i/\s.dropWhile (PY ends)=s.drop i):=RJ HS.out (fun c hc=>by rw[hget] at hc;cases hc;exact hft);have HF:=MP ends c1 B wr hb;rw[hft] at HF;clear hget hft;go_wp2_with(go_at_call 65;refine HF.mono ?_;rintro e w1 ⟨rfl,rfl⟩);go_ret;refine⟨by rw[HT.out.1,<- RQ];rfl,?_,(bO.of_below (aG _ _)).setCell _⟩;have q:=RD.set (t:=s.drop i) h;rw[<- a2S] at q;rw[HT.out.2];exact q
  ·obtain rfl:i=s.length:=by omega
   have HT:Hid (s.takeWhile (PY ends)=s.take s.length/\s.dropWhile (PY ends)=s.drop s.length):=RJ HS.out (fun c hc=>by rw[List.getElem?_eq_none ai] at hc;cases hc);go_wp2_with fail;go_ret;refine⟨by rw[HT.out.1,<- RQ];rfl,?_,(bO.of_below (aG _ _)).setCell _⟩;rw[HT.out.2,List.drop_length];exact RD.set (t:=[]) h
theorem bO.grown {b:Nat}{A B:ag}(h:bO b A B):A.grownBy B (some b):=⟨h.os,h.tape,h.output,h.size,fun k hk hne=>h.block k hk (fun e=>hne (by rw[e]))⟩
theorem bO.refl (b:Nat)(A:ag):bO b A A:=bO.of_below (aG _ _)
theorem bO.low {b:Nat}{A B C:ag}(h:bO b A B)(k:Below A.heap.size B C):bO b A C:=⟨k.os.trans h.os,k.tape.trans h.tape,k.output.trans h.output,aJ h.size k.size,fun i hi hb=>(k.block i hi).trans (h.block i hi hb)⟩
theorem Bd.keep {B b R:Nat}{l:Bs}{w w':ag}(h:Bd B b l w)(k:bO R w w')(hR:R<B):Bd B b l w':=by
 have aux:∀p,Lib.BuilderAtF 75 5 B b p (Lib.byteCells l) w->Lib.BuilderAtF 75 5 B b p (Lib.byteCells l) w':=fun p ⟨hB,v,hb,ho,hne⟩=>
  ⟨hB,v,by rw[k.block b (aI hb) (by omega)];exact hb,ho.kept k.grown (.inr fun e=>by have:=(ho.lt R e).1;omega),hne⟩
 exact h.elim (fun x=>.inl (aux _ x)) (fun x=>.inr (aux _ x))
theorem bO.blk {b:Nat}{A B:ag}(h:bO b A B){N:Nat}{o:Obj}(hN:A.heap[N]? =some o)(hne:N≠b):B.heap[N]? =some o:=by
 rw[h.block N (aI hN) hne];exact hN
theorem Zr (u:Bs):Gq u=if(wl 60).isPrefixOf u=true then some (60,u.drop (wl 60).length) else if(wl 62).isPrefixOf u=true then some (62,u.drop (wl 62).length) else if(wl 38).isPrefixOf u=true then some (38,u.drop (wl 38).length) else if(wl 34).isPrefixOf u=true then some (34,u.drop (wl 34).length) else none:=rfl
def MkR (R:Nat)(u:Bs)(e:Ending)(w:ag):Prop:=(Gq u=none/\e=.returned (.tuple #[.int .u8 0,.bool false]))\/∃c r,Gq u=some (c,r)/\e=.returned (.tuple #[.int .u8 (UInt8.toNat c),.bool true])/\RD R r w
theorem MS (R:Nat)(u:Bs)(W:ag)(h:RD R u W):
  au 117 #[ay R] W fun e w'=>bO R W w'/\MkR R u e w':=by
 have HW:=Zr u;have w60:=mF 60;have w62:=mF 62;have w38:=mF 38;have w34:=mF 34;rw[Ca] at w60 w62 w38 w34;go_enter func117,ntmps117;go_wp2_with fail
 go_loopw [4] (fun y wr=>∃i:Nat,y=aa i/\i<=4/\(∀j c,j<i->([60,62,38,34]:Bs)[j]? =some c->(wl c).isPrefixOf u=false)/\RD R u wr/\bO R W wr) (fun y _=>4-(intOf y).toNat)
 case atStart=>exact⟨0,rfl,aP _,fun j _ h=>absurd h (Nat.not_lt_zero _),h,bO.refl _ _⟩
 case round=>
  obtain⟨i,rfl,hi,hsm,hrd,hkp⟩:=hrel;have HS:=aj hsm;clear hsm;have HM:=aj HW;clear HW;rcases i with _|_|_|_|_|i
  ·cases hp:(wl 60).isPrefixOf u with
   |true=>
    have SK:=jq R u (wl 60) wr hrd;rw[hp,rU hp] at SK;have HZ:Hid (Gq u=some (60,u.drop (wl 60).length)):=(by rw[HM.out,if_pos hp]:Gq u=some (60,u.drop (wl 60).length));clear hp;go_wp2_with(first|(go_at_call 113;refine(w60 _).mono ?_;rintro e w1 ⟨rfl,rfl⟩)|(go_at_call 33;refine SK.mono ?_;rintro e w1 ⟨rfl,hr1,hk1⟩))
    go_ret2
    exact⟨hkp.trans hk1,.inr ⟨60,_,HZ.out,rfl,hr1⟩⟩
   |false=>
    have SK:=jq R u (wl 60) wr hrd;rw[hp,xq hp] at SK;have HZ:=aj hp;clear hp;go_wp2_with(first|(go_at_call 113;refine(w60 _).mono ?_;rintro e w1 ⟨rfl,rfl⟩)|(go_at_call 33;refine SK.mono ?_;rintro e w1 ⟨rfl,hr1,hk1⟩))
    go_roundw
    case rel=>exact⟨1,by go_num,by omega,fun j c hj hc=>by
     by_cases e:j<0
     ·exact HS.out j c (by omega) hc
     ·obtain rfl:j=0:=by omega
      simp at hc;subst hc;exact HZ.out,hr1,hkp.trans hk1⟩
    case measure=>simp[intOf]
  ·cases hp:(wl 62).isPrefixOf u with
   |true=>
    have SK:=jq R u (wl 62) wr hrd;rw[hp,rU hp] at SK;have HZ:Hid (Gq u=some (62,u.drop (wl 62).length)):=(by rw[HM.out,if_neg (by rw[HS.out 0 60 (by omega) rfl];simp),if_pos hp]:Gq u=some (62,u.drop (wl 62).length));clear hp;go_wp2_with(first|(go_at_call 113;refine(w62 _).mono ?_;rintro e w1 ⟨rfl,rfl⟩)|(go_at_call 33;refine SK.mono ?_;rintro e w1 ⟨rfl,hr1,hk1⟩))
    go_ret2
    exact⟨hkp.trans hk1,.inr ⟨62,_,HZ.out,rfl,hr1⟩⟩
   |false=>
    have SK:=jq R u (wl 62) wr hrd;rw[hp,xq hp] at SK;have HZ:=aj hp;clear hp;go_wp2_with(first|(go_at_call 113;refine(w62 _).mono ?_;rintro e w1 ⟨rfl,rfl⟩)|(go_at_call 33;refine SK.mono ?_;rintro e w1 ⟨rfl,hr1,hk1⟩))
    go_roundw
    case rel=>exact⟨2,by go_num,by omega,fun j c hj hc=>by
     by_cases e:j<1
     ·exact HS.out j c (by omega) hc
     ·obtain rfl:j=1:=by omega
      simp at hc;subst hc;exact HZ.out,hr1,hkp.trans hk1⟩
    case measure=>simp[intOf]
  ·cases hp:(wl 38).isPrefixOf u with
   |true=>
    have SK:=jq R u (wl 38) wr hrd;rw[hp,rU hp] at SK;have HZ:Hid (Gq u=some (38,u.drop (wl 38).length)):=(by rw[HM.out,if_neg (by rw[HS.out 0 60 (by omega) rfl];simp),if_neg (by rw[HS.out 1 62 (by omega) rfl];simp),if_pos hp]:Gq u=some (38,u.drop (wl 38).length));clear hp;go_wp2_with(first|(go_at_call 113;refine(w38 _).mono ?_;rintro e w1 ⟨rfl,rfl⟩)|(go_at_call 33;refine SK.mono ?_;rintro e w1 ⟨rfl,hr1,hk1⟩))
    go_ret2
    exact⟨hkp.trans hk1,.inr ⟨38,_,HZ.out,rfl,hr1⟩⟩
   |false=>
    have SK:=jq R u (wl 38) wr hrd;rw[hp,xq hp] at SK;have HZ:=aj hp;clear hp;go_wp2_with(first|(go_at_call 113;refine(w38 _).mono ?_;rintro e w1 ⟨rfl,rfl⟩)|(go_at_call 33;refine SK.mono ?_;rintro e w1 ⟨rfl,hr1,hk1⟩))
    go_roundw
    case rel=>exact⟨3,by go_num,by omega,fun j c hj hc=>by
     by_cases e:j<2
     ·exact HS.out j c (by omega) hc
     ·obtain rfl:j=2:=by omega
      simp at hc;subst hc;exact HZ.out,hr1,hkp.trans hk1⟩
    case measure=>simp[intOf]
  ·cases hp:(wl 34).isPrefixOf u with
   |true=>
    have SK:=jq R u (wl 34) wr hrd;rw[hp,rU hp] at SK;have HZ:Hid (Gq u=some (34,u.drop (wl 34).length)):=(by rw[HM.out,if_neg (by rw[HS.out 0 60 (by omega) rfl];simp),if_neg (by rw[HS.out 1 62 (by omega) rfl];simp),if_neg (by rw[HS.out 2 38 (by omega) rfl];simp),if_pos hp]:Gq u=some (34,u.drop (wl 34).length));clear hp;go_wp2_with(first|(go_at_call 113;refine(w34 _).mono ?_;rintro e w1 ⟨rfl,rfl⟩)|(go_at_call 33;refine SK.mono ?_;rintro e w1 ⟨rfl,hr1,hk1⟩))
    go_ret2
    exact⟨hkp.trans hk1,.inr ⟨34,_,HZ.out,rfl,hr1⟩⟩
   |false=>
    have SK:=jq R u (wl 34) wr hrd;rw[hp,xq hp] at SK;have HZ:=aj hp;clear hp;go_wp2_with(first|(go_at_call 113;refine(w34 _).mono ?_;rintro e w1 ⟨rfl,rfl⟩)|(go_at_call 33;refine SK.mono ?_;rintro e w1 ⟨rfl,hr1,hk1⟩))
    go_roundw
    case rel=>exact⟨4,by go_num,by omega,fun j c hj hc=>by
     by_cases e:j<3
     ·exact HS.out j c (by omega) hc
     ·obtain rfl:j=3:=by omega
      simp at hc;subst hc;exact HZ.out,hr1,hkp.trans hk1⟩
    case measure=>simp[intOf]
  ·have HZ:Hid (Gq u=none):=(by rw[HM.out,if_neg (by rw[HS.out 0 60 (by omega) rfl];simp),if_neg (by rw[HS.out 1 62 (by omega) rfl];simp),if_neg (by rw[HS.out 2 38 (by omega) rfl];simp),if_neg (by rw[HS.out 3 34 (by omega) rfl];simp)]:Gq u=none);go_wp2_with fail
   go_ret2
   exact⟨hkp,.inl ⟨HZ.out,rfl⟩⟩
  ·omega
def left (R:Nat)(w:ag):Nat:=match w.cell? (ak R 0) with
 |some (.string s)=>s.size
 |_=>0
theorem RD.left {R:Nat}{s:Bs}{w:ag}(h:RD R s w):left R w=s.length:=by
 unfold Go.Proofs.YtecneflbncjhpaaGreatDoor.left;rw[h.cell];exact fU s
theorem a2T {f:Nat}{s:Bs}(h:[34].isPrefixOf (Jf s)=true):xm (f+1) s=some (Vb s,(Jf s).drop 1):=by rw[xm,if_pos h]
theorem a6Q {f:Nat}{s:Bs}(h:[34].isPrefixOf (Jf s)=false)(hm:Gq (Jf s)=none):xm (f+1) s=none:=by rw[xm,if_neg (by rw[h];simp),hm]
theorem a6R {f:Nat}{s:Bs}{c:UInt8}{r:Bs}(h:[34].isPrefixOf (Jf s)=false)(hm:Gq (Jf s)=some (c,r)):xm (f+1) s=DK (Vb s++[c]) (xm f r):=by rw[xm,if_neg (by rw[h];simp),hm]
theorem RD.low {R B:Nat}{s:Bs}{w w':ag}(h:RD R s w)(hb:Below B w w')(hR:R<B):RD R s w':=by
 unfold RD at h⊢;rw[<- h];exact hb.block R hR
theorem mO (R:Nat)(s wd:Bs)(W:ag)(h:RD R s W)(hp:wd.isPrefixOf s=true):au 33 #[ay R,.string ⟨wd.toArray⟩] W fun e w'=>e=.returned (.bool true)/\RD R (s.drop wd.length) w'/\bO R W w':=by
 have:=jq R s wd W h;rw[hp,rU hp] at this;exact this
theorem jQ (R:Nat)(s wd:Bs)(W:ag)(h:RD R s W)(hp:wd.isPrefixOf s=false):au 33 #[ay R,.string ⟨wd.toArray⟩] W fun e w'=>e=.returned (.bool false)/\RD R s w'/\bO R W w':=by
 have:=jq R s wd W h;rw[hp,xq hp] at this;exact this
theorem Vh (R:Nat)(s:Bs)(B:Nat)(W:ag)(h:RD R s W)(hB:W.heap[B]? =some (.cells #[.string ⟨([60,62,38,34]:Bs).toArray⟩] 9))(hl:s.length<=100000):
  au 34 #[ay R,.func (.func 65) #[] #[ay B]] W fun e w'=>e=.returned (.string ⟨(Vb s).toArray⟩)/\RD R (Jf s) w'/\bO R W w':=by
 have:=MR R s _ B W h hB hl;rw[aaK] at this;exact this
theorem oM (R:Nat)(s:Bs)(B:Nat)(W:ag)(h:RD R s W)(hB:W.heap[B]? =some (.cells #[.string ⟨([32,61,34,60,62,47]:Bs).toArray⟩] 9))(hl:s.length<=100000):
  au 34 #[ay R,.func (.func 65) #[] #[ay B]] W fun e w'=>e=.returned (.string ⟨(iZ s).toArray⟩)/\RD R (uJ s) w'/\bO R W w':=by
 have:=MR R s _ B W h hB hl;rw[aaJ] at this;exact this
def VlR (R:Nat)(o:Option (Bs×Bs))(e:Ending)(w:ag):Prop:=(o=none/\e=.returned (.tuple #[.string ⟨#[]⟩,.bool false]))\/∃v r:Bs,o=some (v,r)/\e=.returned (.tuple #[.string ⟨v.toArray⟩,.bool true])/\RD R r w
theorem Gs (R:Nat)(s:Bs)(W:ag)(h:RD R s W)(hl:s.length<=10000):
  au 67 #[ay R] W fun e w'=>bO R W w'/\VlR R (xm (s.length+1) s) e w':=by
 have hR:=h.lt;have b0:=bT W (.cells #[.pointer none,.slice none 0 0] 75);have aaL:=Bd.fresh W.heap.size W ai;go_enter func67,ntmps67;go_wp2_with fail;obtain⟨V,hV⟩:∃V,W.alloc (.cells #[.pointer none,.slice none 0 0] 75)=V:=⟨_,rfl⟩;have aaM:=h.al (.cells #[.pointer none,.slice none 0 0] 75);rw[hV] at b0 aaL aaM⊢;clear hV
 go_loopw [] (fun wr=>∃(acc rest:Bs) (f:Nat),rest.length<f/\acc.length+rest.length<=s.length/\xm (s.length+1) s=DK acc (xm f rest)/\RD R rest wr/\Bd W.heap.size W.heap.size acc wr/\bO R W wr) (fun wr=>left R wr)
 case atStart=>exact⟨[],s,s.length+1,by omega,by simp,(Zi _).symm,aaM,aaL,bO.of_below b0⟩
 case round=>
  obtain⟨acc,rest,f,hf,hal,heq,hrd,hbd,hkp⟩:=hrel;have HQ:=aj heq;clear heq;obtain⟨f,rfl⟩:∃g,f=g+1:=⟨f-1,by omega⟩;have hml:=Rx rest;have NO:=kF [60,62,38,34] wr;have xu:=hrd.al (.cells #[.string ⟨([60,62,38,34]:Bs).toArray⟩] 9);have nb:=dw wr #[.string ⟨([60,62,38,34]:Bs).toArray⟩] 9;have TK:=Vh R rest wr.heap.size _ xu nb (by omega);have k1:=hkp.trans (bO.of_below (bT wr (.cells #[.string ⟨([60,62,38,34]:Bs).toArray⟩] 9)));have bd1:=hbd.al (.cells #[.string ⟨([60,62,38,34]:Bs).toArray⟩] 9);have HL:Hid (left R wr=rest.length):=hrd.left;clear hrd hbd nb xu;cases hp:[34].isPrefixOf (Jf rest) with
  |true=>
   have HZ:Hid (xm (s.length+1) s=some (acc++Vb rest,(Jf rest).drop 1)):=(by rw[HQ.out,a2T hp];rfl:xm (s.length+1) s=some (acc++Vb rest,(Jf rest).drop 1));go_wp2_with(first|(go_at_call 35;refine NO.mono ?_;rintro e w1 ⟨rfl,rfl⟩)|(go_at_call 34;refine TK.mono ?_;rintro e w2 ⟨rfl,mQ,k2⟩;have K2:=k1.trans k2;have bd2:=bd1.keep k2 hR)|(go_at_call 60;refine(dN W.heap.size W.heap.size acc (Vb rest) _ bd2 (by omega) K2.size).mono ?_;rintro e w3 ⟨rfl,bd3,bk3⟩;have MU:=mQ.low bk3.low hR;have K3:=K2.low bk3.low)|(go_at_call 33;refine(mO R _ [34] _ MU hp).mono ?_;rintro e w4 ⟨rfl,Zt,k4⟩;have bd4:=bd3.keep k4 hR;have K4:=K3.trans k4)|(go_at_call 28;refine(Tryz.Builder_String_any_k W.heap.size _ _ _ bd4 K4.size).mono ?_;rintro e w5 ⟨rfl, -,hb5, -⟩))
   go_ret2
   exact⟨K4.low hb5,.inr ⟨_,_,HZ.out,rfl,Zt.low hb5 hR⟩⟩
  |false=>
   cases hm:Gq (Jf rest) with
   |none=>
    have HZ:Hid (xm (s.length+1) s=none):=(by rw[HQ.out,a6Q hp hm];rfl:xm (s.length+1) s=none);have MK:∀W,RD R (Jf rest) W->au 117 #[ay R] W fun e w'=>bO R W w'/\e=.returned (.tuple #[.int .u8 0,.bool false]):=fun W h=>(MS R _ W h).mono (fun e w' ⟨h1,h2⟩=>⟨h1,by
     rcases h2 with h2|⟨c,r,h2, -⟩
     ·exact h2.2
     ·rw[hm] at h2;cases h2⟩)
    clear hm;go_wp2_with(first|(go_at_call 35;refine NO.mono ?_;rintro e w1 ⟨rfl,rfl⟩)|(go_at_call 34;refine TK.mono ?_;rintro e w2 ⟨rfl,mQ,k2⟩;have K2:=k1.trans k2;have bd2:=bd1.keep k2 hR)|(go_at_call 60;refine(dN W.heap.size W.heap.size acc (Vb rest) _ bd2 (by omega) K2.size).mono ?_;rintro e w3 ⟨rfl,bd3,bk3⟩;have MU:=mQ.low bk3.low hR;have K3:=K2.low bk3.low)|(go_at_call 33;refine(jQ R _ [34] _ MU hp).mono ?_;rintro e w4 ⟨rfl,Zt,k4⟩;have K4:=K3.trans k4)|(go_at_call 117;refine(MK _ Zt).mono ?_;rintro e w5 ⟨k5,rfl⟩))
    go_ret2
    exact⟨K4.trans k5,.inl ⟨HZ.out,rfl⟩⟩
   |some q=>
    obtain⟨c,r⟩:=q;have hlen:=Ry hm;have HZ:Hid (xm (s.length+1) s=DK (acc++Vb rest++[c]) (xm f r)):=(by rw[HQ.out,a6R hp hm,Zj,List.append_assoc]:xm (s.length+1) s=DK (acc++Vb rest++[c]) (xm f r));have MK:∀W,RD R (Jf rest) W->au 117 #[ay R] W fun e w'=>bO R W w'/\e=.returned (.tuple #[.int .u8 (UInt8.toNat c),.bool true])/\RD R r w':=fun W h=>(MS R _ W h).mono (fun e w' ⟨h1,h2⟩=>⟨h1,by
     rcases h2 with h2|⟨c',r',h2,h3,h4⟩
     ·rw[hm] at h2;cases h2.1
     ·rw[hm] at h2;cases h2;exact⟨h3,h4⟩⟩)
    clear hm;go_wp2_with(first|(go_at_call 35;refine NO.mono ?_;rintro e w1 ⟨rfl,rfl⟩)|(go_at_call 34;refine TK.mono ?_;rintro e w2 ⟨rfl,mQ,k2⟩;have K2:=k1.trans k2;have bd2:=bd1.keep k2 hR)|(go_at_call 60;refine(dN W.heap.size W.heap.size acc (Vb rest) _ bd2 (by omega) K2.size).mono ?_;rintro e w3 ⟨rfl,bd3,bk3⟩;have MU:=mQ.low bk3.low hR;have K3:=K2.low bk3.low)|(go_at_call 33;refine(jQ R _ [34] _ MU hp).mono ?_;rintro e w4 ⟨rfl,Zt,k4⟩;have bd4:=bd3.keep k4 hR;have K4:=K3.trans k4)|(go_at_call 117;refine(MK _ Zt).mono ?_;rintro e w5 ⟨k5,rfl,MW⟩;have bd5:=bd4.keep k5 hR;have K5:=K4.trans k5)|(go_at_call 31;refine(uw W.heap.size W.heap.size _ c _ bd5 (by simp;omega) K5.size).mono ?_;rintro e w6 ⟨rfl,bd6,bk6⟩))
    go_roundw
    case rel=>exact⟨_,_,f,by omega,by simp;omega,HZ.out,MW.low bk6.low hR,bd6,K5.low bk6.low⟩
    case measure=>have h1:=HL.out;have h2:=(MW.low bk6.low hR).left;omega
theorem NB.di {N:Nat}{c0 c1 c2:ah}{w:ag}(h:NB N c0 c1 c2 w)(i:Nat):w.frozen? ⟨N,i,none⟩=false:=by
 unfold NB at h;unfold World.frozen?;rw[h];simp
theorem NB.lt {N:Nat}{c0 c1 c2:ah}{w:ag}(h:NB N c0 c1 c2 w):N<w.heap.size:=aI h
theorem NB.keep {N R:Nat}{c0 c1 c2:ah}{w w':ag}(h:NB N c0 c1 c2 w)(k:bO R w w')(hne:R≠N):NB N c0 c1 c2 w':=k.blk h (fun e=>hne e.symm)
theorem NB.al {N:Nat}{c0 c1 c2:ah}{w:ag}(h:NB N c0 c1 c2 w)(o:Obj):NB N c0 c1 c2 (w.alloc o):=by
 have:=h.lt;unfold NB at h⊢;rw[<- h];exact(bT w o).block N this
theorem NB.grown {N:Nat}{g:Option Nat}{c0 c1 c2:ah}{w w':ag}(h:NB N c0 c1 c2 w)(k:w.grownBy w' g)(hne:some N≠g):NB N c0 c1 c2 w':=by
 have:=h.lt;unfold NB at h⊢;rw[<- h];exact k.block N this hne
theorem NB.set1 {N:Nat}{c0 c1 c2:ah}{w:ag}(h:NB N c0 c1 c2 w)(v:ah):NB N c0 v c2 (w.setCell ⟨N,1,none⟩ v):=by
 unfold NB at h⊢;rw[heap_setCell_same w N 1 _ _ _ h];rfl
theorem NB.set2 {N:Nat}{c0 c1 c2:ah}{w:ag}(h:NB N c0 c1 c2 w)(v:ah):NB N c0 c1 v (w.setCell ⟨N,2,none⟩ v):=by
 unfold NB at h⊢;rw[heap_setCell_same w N 2 _ _ _ h];rfl
theorem RD.grown {R:Nat}{g:Option Nat}{s:Bs}{w w':ag}(h:RD R s w)(k:w.grownBy w' g)(hne:some R≠g):RD R s w':=by
 have:=h.lt;unfold RD at h⊢;rw[<- h];exact k.block R this hne
theorem RD.tX {R N:Nat}{s:Bs}{w:ag}(h:RD R s w)(i:Nat)(v:ah)(hne:R≠N):RD R s (w.setCell ⟨N,i,none⟩ v):=by
 unfold RD at h⊢;rw[<- h];exact aY w _ v R hne
theorem bO.set (N:Nat)(i:Nat)(w:ag)(v:ah):bO N w (w.setCell ⟨N,i,none⟩ v):=by
 have hs:=(aG N w).setCell (p:=⟨N,i,none⟩) ai v;exact⟨hs.os,hs.tape,hs.output,hs.size,fun k _ hb=>aY _ _ _ k hb⟩
theorem dh {R B k n:Nat}{e:TypeId}{v:ah}{xs:List ah}{w w':ag}(h:w.ownsRow B e k v n xs)(hk:bO R w w')(hR:R<B):w'.ownsRow B e k v n xs:=
 h.kept hk.grown (.inr fun e=>by have:=(h.lt R e).1;omega)
theorem Vi (w:ag)(a b:ah)(t:TypeId):∀j u,[a,b][j]? =some u->(w.alloc (.cells #[a,b] t)).cell? ((⟨w.heap.size,0,none⟩:Addr).add j)=some u:=by
 intro j u h;have e:(⟨w.heap.size,0,none⟩:Addr).add j=⟨w.heap.size,j,none⟩:=by unfold Addr.add;split<;>simp_all
 rw[e];exact iJ w #[a,b] t j u (by simpa using h)
theorem qi {w:ag}{B:Nat}{e:TypeId}{k:Nat}{v:ah}{n:Nat}{xs:List ah}(h:w.ownsRow B e k v n xs):∃o cap,v=.slice o n cap:=by
 obtain⟨o,cap,h1, -⟩:=dL h;exact⟨o,cap,h1⟩
theorem a6S {f:Nat}{s:Bs}(h:[32].isPrefixOf s=false):uK (f+1) s=some ([],s):=by rw[uK,if_neg (by rw[h];simp)]
theorem a2U {f:Nat}{s:Bs}(h:[32].isPrefixOf s=true)(h1:nN (s.drop 1)=none):uK (f+1) s=none:=by rw[uK,if_pos h,h1]
theorem a6T {f:Nat}{s:Bs}{a:Bs×Bs}{r:Bs}(h:[32].isPrefixOf s=true)(h1:nN (s.drop 1)=some (a,r)):uK (f+1) s=yD [a] (uK f r):=by rw[uK,if_pos h,h1]
theorem Zu {r:Bs}(h:iZ r=[]):nN r=none:=by rw[nN,if_pos h]
theorem a6U {r:Bs}(h:[61,34].isPrefixOf (uJ r)=false):nN r=none:=by
 rw[nN];split
 ·rfl
 ·rw[if_neg (by rw[h];simp)]
theorem a6V {r:Bs}(h0:iZ r≠[])(h:[61,34].isPrefixOf (uJ r)=true)(hv:xm (((uJ r).drop 2).length+1) ((uJ r).drop 2)=none):nN r=none:=by rw[nN,if_neg h0,if_pos h,hv]
theorem a2V {r v z:Bs}(h0:iZ r≠[])(h:[61,34].isPrefixOf (uJ r)=true)(hv:xm (((uJ r).drop 2).length+1) ((uJ r).drop 2)=some (v,z)):nN r=some ((iZ r,v),z):=by rw[nN,if_neg h0,if_pos h,hv]
def AtR (R N B:Nat)(c0 c2:ah)(o:Option (List (Bs×Bs)×Bs))(e:Ending)(w:ag):Prop:=∃vA,NB N c0 vA c2 w/\((o=none/\e=.returned (.bool false))\/∃(ats:List (Bs×Bs)) (r:Bs),o=some (ats,r)/\e=.returned (.bool true)/\RD R r w/\w.ownsRow B 100 2 vA ats.length (bJ ats))
theorem Zv (R N:Nat)(s:Bs)(c0 c2:ah)(W:ag)(h:RD R s W)(hN:NB N c0 (.slice none 0 0) c2 W)(hne:R≠N)(hl:s.length<=10000):
  au 36 #[ay R,ay N] W fun e w'=>bA R N W w'/\AtR R N W.heap.size c0 c2 (uK (s.length+1) s) e w':=by
 have hR:=h.lt;have hNl:=hN.lt;obtain⟨i0,hi,hz0,hz1,hz2⟩:=info_parts Cg;go_enter func36,ntmps36;go_wp2_with fail
 go_loopw [] (fun wr=>∃(acc:List (Bs×Bs)) (rest:Bs) (f:Nat) (vA:ah),rest.length<f/\rest.length+4*acc.length<=s.length/\uK (s.length+1) s=yD acc (uK f rest)/\RD R rest wr/\NB N c0 vA c2 wr/\wr.ownsRow W.heap.size 100 2 vA acc.length (bJ acc)/\bA R N W wr) (fun wr=>left R wr)
 case atStart=>exact⟨[],s,s.length+1,.slice none 0 0,by omega,by simp,(Zk _).symm,h,hN,eH _ _ _ _,bA.of_below (aG _ _)⟩
 case round=>
  obtain⟨acc,rest,f,vA,hf,hal,heq,hrd,hnb,hown,hkp⟩:=hrel;have HQ:=aj heq;clear heq;obtain⟨f,rfl⟩:∃g,f=g+1:=⟨f-1,by omega⟩;have HL:Hid (left R wr=rest.length):=hrd.left;cases hp:[32].isPrefixOf rest with
  |false=>
   have HZ:Hid (uK (s.length+1) s=some (acc,rest)):=(by rw[HQ.out,a6S hp];simp[yD]:uK (s.length+1) s=some (acc,rest));go_wp2_with(go_at_call 33;refine(jQ R _ [32] _ hrd hp).mono ?_;rintro e w1 ⟨rfl,xu,k1⟩);go_ret;exact⟨hkp.trans (bA.gL k1),vA,hnb.keep k1 hne,.inr ⟨acc,rest,HZ.out,rfl,xu,dh hown k1 hR⟩⟩
  |true=>
   have hlr:=iA hp;have SK1:=mO R rest [32] wr hrd hp;obtain⟨r,hr⟩:∃r,rest.drop 1=r:=⟨_,rfl⟩;have afB:1+r.length=rest.length:=by rw[<- hr];exact hlr
   rw[show rest.drop ([32]:Bs).length=r from hr] at SK1;have HB:Hid (nN r=none->uK (s.length+1) s=none):=(fun h1=>by rw[HQ.out,a2U hp (by rw[hr];exact h1)];rfl:nN r=none->uK (s.length+1) s=none);have HO:Hid (∀a z,nN r=some (a,z)->uK (s.length+1) s=yD (acc++[a]) (uK f z)):=(fun a z h1=>by rw[HQ.out,a6T hp (by rw[hr];exact h1),Zl]:∀a z,nN r=some (a,z)->uK (s.length+1) s=yD (acc++[a]) (uK f z));clear hlr hr hp;have hte:=Ah r;by_cases he:iZ r=[]
   ·have HZ:Hid (uK (s.length+1) s=none):=HB.out (Zu he);go_wp2_with(first|(go_at_call 34;refine(oM R r _ _ mQ nx (by omega)).mono ?_;rintro e w3 ⟨rfl,MU,k3⟩;have Zw:=Zx.keep k3 hne;have zT:=dh yc k3 hR;have K3:=K2.trans (bA.gL k3);clear mQ Zx yc;rw[he])|(go_at_call 35;refine(kF [32,61,34,60,62,47] _).mono ?_;rintro e w2 ⟨rfl,rfl⟩)|(go_at_call 33;refine SK1.mono ?_;rintro e w1 ⟨rfl,xu,k1⟩;have nx:=dw w1 #[.string ⟨([32,61,34,60,62,47]:Bs).toArray⟩] 9;have mQ:=xu.al (.cells #[.string ⟨([32,61,34,60,62,47]:Bs).toArray⟩] 9);have Zx:=(hnb.keep k1 hne).al (.cells #[.string ⟨([32,61,34,60,62,47]:Bs).toArray⟩] 9);have yc:=World.ownsRow.alloc (dh hown k1 hR) (.cells #[.string ⟨([32,61,34,60,62,47]:Bs).toArray⟩] 9);have K2:=(hkp.trans (bA.gL k1)).trans (bA.of_below (bT w1 (.cells #[.string ⟨([32,61,34,60,62,47]:Bs).toArray⟩] 9)));clear xu));go_ret;exact⟨K3,vA,Zw,.inl ⟨HZ.out,rfl⟩⟩
   ·have hem:(iZ r).isEmpty=false:=by
     cases ht:iZ r with
     |nil=>exact absurd ht he
     |cons _ _=>rfl
    cases hq:[61,34].isPrefixOf (uJ r) with
    |false=>
     have HZ:Hid (uK (s.length+1) s=none):=HB.out (a6U hq);go_wp2_with(first|(have z3:=MU;go_at_call 33;refine(jQ R (uJ r) [61,34] _ z3 hq).mono ?_;rintro e w4 ⟨rfl,Zt,k4⟩;have nb4:=Zw.keep k4 hne;have K4:=K3.trans (bA.gL k4))|(go_at_call 34;refine(oM R r _ _ mQ nx (by omega)).mono ?_;rintro e w3 ⟨rfl,MU,k3⟩;have Zw:=Zx.keep k3 hne;have zT:=dh yc k3 hR;have K3:=K2.trans (bA.gL k3);clear mQ Zx yc)|(go_at_call 35;refine(kF [32,61,34,60,62,47] _).mono ?_;rintro e w2 ⟨rfl,rfl⟩)|(go_at_call 33;refine SK1.mono ?_;rintro e w1 ⟨rfl,xu,k1⟩;have nx:=dw w1 #[.string ⟨([32,61,34,60,62,47]:Bs).toArray⟩] 9;have mQ:=xu.al (.cells #[.string ⟨([32,61,34,60,62,47]:Bs).toArray⟩] 9);have Zx:=(hnb.keep k1 hne).al (.cells #[.string ⟨([32,61,34,60,62,47]:Bs).toArray⟩] 9);have yc:=World.ownsRow.alloc (dh hown k1 hR) (.cells #[.string ⟨([32,61,34,60,62,47]:Bs).toArray⟩] 9);have K2:=(hkp.trans (bA.gL k1)).trans (bA.of_below (bT w1 (.cells #[.string ⟨([32,61,34,60,62,47]:Bs).toArray⟩] 9)));clear xu));go_ret;exact⟨K4,vA,nb4,.inl ⟨HZ.out,rfl⟩⟩
    |true=>
     have hlq:=iA hq;have SK2:=fun W h=>mO R (uJ r) [61,34] W h hq;obtain⟨x,hx⟩:∃x,(uJ r).drop 2=x:=⟨_,rfl⟩;have adp:2+x.length=(uJ r).length:=by rw[<- hx];exact hlq
     rw[show(uJ r).drop ([61,34]:Bs).length=x from hx] at SK2;have HV:Hid (xm (x.length+1) x=none->nN r=none):=(fun h=>a6V he hq (by rw[hx];exact h):xm (x.length+1) x=none->nN r=none);have HW:Hid (∀v z,xm (x.length+1) x=some (v,z)->nN r=some ((iZ r,v),z)):=(fun v z h=>a2V he hq (by rw[hx];exact h):∀v z,xm (x.length+1) x=some (v,z)->nN r=some ((iZ r,v),z));clear hlq hx hq;cases hv:xm (x.length+1) x with
     |none=>
      have HZ:Hid (uK (s.length+1) s=none):=HB.out (HV.out hv);have VL:∀W,RD R x W->au 67 #[ay R] W fun e w'=>bO R W w'/\e=.returned (.tuple #[.string ⟨#[]⟩,.bool false]):=fun W h=>(Gs R _ W h (by omega)).mono (fun e w' ⟨h1,h2⟩=>⟨h1,by
       rcases h2 with h2|⟨c,r,h2, -⟩
       ·exact h2.2
       ·rw[hv] at h2;cases h2⟩)
      clear hv;go_wp2_with(first|(go_at_call 67;refine(VL _ Zt).mono ?_;rintro e w5 ⟨k5,rfl⟩;have J6:=nb4.keep k5 hne;have K5:=K4.trans (bA.gL k5))|(have z3:=MU;go_at_call 33;refine(SK2 _ z3).mono ?_;rintro e w4 ⟨rfl,Zt,k4⟩;have nb4:=Zw.keep k4 hne;have Wq:=dh zT k4 hR;have K4:=K3.trans (bA.gL k4);clear z3 MU Zw zT)|(go_at_call 34;refine(oM R r _ _ mQ nx (by omega)).mono ?_;rintro e w3 ⟨rfl,MU,k3⟩;have Zw:=Zx.keep k3 hne;have zT:=dh yc k3 hR;have K3:=K2.trans (bA.gL k3);clear mQ Zx yc)|(go_at_call 35;refine(kF [32,61,34,60,62,47] _).mono ?_;rintro e w2 ⟨rfl,rfl⟩)|(go_at_call 33;refine SK1.mono ?_;rintro e w1 ⟨rfl,xu,k1⟩;have nx:=dw w1 #[.string ⟨([32,61,34,60,62,47]:Bs).toArray⟩] 9;have mQ:=xu.al (.cells #[.string ⟨([32,61,34,60,62,47]:Bs).toArray⟩] 9);have Zx:=(hnb.keep k1 hne).al (.cells #[.string ⟨([32,61,34,60,62,47]:Bs).toArray⟩] 9);have yc:=World.ownsRow.alloc (dh hown k1 hR) (.cells #[.string ⟨([32,61,34,60,62,47]:Bs).toArray⟩] 9);have K2:=(hkp.trans (bA.gL k1)).trans (bA.of_below (bT w1 (.cells #[.string ⟨([32,61,34,60,62,47]:Bs).toArray⟩] 9)));clear xu));go_ret;exact⟨K5,vA,J6,.inl ⟨HZ.out,rfl⟩⟩
     |some q=>
      obtain⟨v,z⟩:=q;have hlv:v.length+z.length+1<=x.length:=J2 _ _ _ hv;have HZ:Hid (uK (s.length+1) s=yD (acc++[(iZ r,v)]) (uK f z)):=HO.out _ _ (HW.out _ _ hv);have VL:∀W,RD R x W->au 67 #[ay R] W fun e w'=>bO R W w'/\e=.returned (.tuple #[.string ⟨v.toArray⟩,.bool true])/\RD R z w':=fun W h=>(Gs R _ W h (by omega)).mono (fun e w' ⟨h1,h2⟩=>⟨h1,by
       rcases h2 with h2|⟨v',z',h2,h3,h4⟩
       ·rw[hv] at h2;cases h2.1
       ·rw[hv] at h2;cases h2;exact⟨h3,h4⟩⟩)
      clear hv;obtain⟨oA,amG,rfl⟩:=qi hown;go_upto_region 8 with(first|(go_at_call 67;refine(VL _ Zt).mono ?_;rintro e w5 ⟨k5,rfl,MW⟩;have J6:=nb4.keep k5 hne;have oQ:=dh Wq k5 hR;have K5:=K4.trans (bA.gL k5);have n1:=J6.c1;clear Zt nb4 Wq)|(have z3:=MU;go_at_call 33;refine(SK2 _ z3).mono ?_;rintro e w4 ⟨rfl,Zt,k4⟩;have nb4:=Zw.keep k4 hne;have Wq:=dh zT k4 hR;have K4:=K3.trans (bA.gL k4);clear z3 MU Zw zT)|(go_at_call 34;refine(oM R r _ _ mQ nx (by omega)).mono ?_;rintro e w3 ⟨rfl,MU,k3⟩;have Zw:=Zx.keep k3 hne;have zT:=dh yc k3 hR;have K3:=K2.trans (bA.gL k3);clear mQ Zx yc)|(go_at_call 35;refine(kF [32,61,34,60,62,47] _).mono ?_;rintro e w2 ⟨rfl,rfl⟩)|(go_at_call 33;refine SK1.mono ?_;rintro e w1 ⟨rfl,xu,k1⟩;have nx:=dw w1 #[.string ⟨([32,61,34,60,62,47]:Bs).toArray⟩] 9;have mQ:=xu.al (.cells #[.string ⟨([32,61,34,60,62,47]:Bs).toArray⟩] 9);have Zx:=(hnb.keep k1 hne).al (.cells #[.string ⟨([32,61,34,60,62,47]:Bs).toArray⟩] 9);have yc:=World.ownsRow.alloc (dh hown k1 hR) (.cells #[.string ⟨([32,61,34,60,62,47]:Bs).toArray⟩] 9);have K2:=(hkp.trans (bA.gL k1)).trans (bA.of_below (bT w1 (.cells #[.string ⟨([32,61,34,60,62,47]:Bs).toArray⟩] 9)));clear xu));go_wp2_with(at_builtin;refine wpList_append_own _ rfl _ _ 33 rfl W.heap.size 100 i0 (.agg #[.string ⟨#[]⟩,.string ⟨#[]⟩]) 2 32 underlying33 hi hz0 hz1 hz2 rfl (by decide) _ _ _ rfl (World.ownsRow.alloc oQ _) ⟨w5.heap.size,0,none⟩ 1 1 [.string ⟨(iZ r).toArray⟩,.string ⟨v.toArray⟩] rfl rfl (Vi w5 _ _ _) (fun u hu=>by simp at hu;rcases hu with rfl|rfl<;>rfl) (by rw[bq];omega) (by omega) (by have:=K5.size;simp;omega) ?_;intro v7 w7 kN jS _;have Jg:=(J6.al _).grown jS (own_ne oQ hNl);have m1:=Jg.c1;have m2:=Jg.di 1;obtain⟨o7,tK,rfl⟩:=qi kN);have rd7:=(MW.al (.cells #[.string ⟨(iZ r).toArray⟩,.string ⟨v.toArray⟩] 100)).grown jS (own_ne oQ hR)
      have K7:=(K5.trans (bA.of_below (bT w5 (.cells #[.string ⟨(iZ r).toArray⟩,.string ⟨v.toArray⟩] 100)))).grown jS (fun b hb=>(oQ.lt b hb).1);have ow8:=dh kN (bO.set N 1 w7 (.slice o7 (acc.length+1) tK)) hNl;have rd8:=rd7.tX (N:=N) 1 (.slice o7 (acc.length+1) tK) hne
      go_roundw
      case rel=>exact⟨acc++[(iZ r,v)],z,f,.slice o7 (acc.length+1) tK,by omega,by simp;omega,HZ.out,rd8,Jg.set1 _,by rw[zw,List.length_append];exact ow8,K7.trans (bA.tX _ _ _)⟩
      case measure=>have h1:=HL.out;have h2:=rd8.left;omega
end
section
open Go.RowKit
def ElR (R B:Nat)(o:Option (Nd×Bs))(e:Ending)(w:ag):Prop:=∃(s0:aC) (o1:Option Addr) (n1 k1:Nat) (o2:Option Addr) (n2 k2:Nat),(o=none/\e=.returned (.tuple #[.agg #[.string s0,.slice o1 n1 k1,.slice o2 n2 k2],.bool false]))\/∃(n:Nd) (r:Bs),o=some (n,r)/\e=.returned (.tuple #[.agg #[.string s0,.slice o1 n1 k1,.slice o2 n2 k2],.bool true])/\RD R r w/\oJ (fun b=>B<=b) w (.string s0) (.slice o1 n1 k1) (.slice o2 n2 k2) n
def El (R f:Nat):Prop:=∀(s:Bs) (W:ag),s.length<f->s.length<=10000->RD R s W->
 au 17 #[ay R] W fun e w'=>bO R W w'/\ElR R W.heap.size (kT f s) e w'
theorem J7 (s p:Bs)(w:ag):au 68 #[.string ⟨s.toArray⟩,.string ⟨p.toArray⟩] w fun e w'=>e=.returned (.bool (p.isPrefixOf s))/\w'=w:=by
 have:=Tryz.strings_HasPrefix ⟨s.toArray⟩ ⟨p.toArray⟩ w;exact this
theorem ic (s p:Bs)(b:Bool)(w:ag)(h:p.isPrefixOf s=b):au 68 #[.string ⟨s.toArray⟩,.string ⟨p.toArray⟩] w fun e w'=>e=.returned (.bool b)/\w'=w:=by
 rw[<- h];exact J7 s p w
theorem RU {el:Bs->Option (Nd×Bs)}{f:Nat}{s:Bs}(h:¬([60].isPrefixOf s=true/\[60,47].isPrefixOf s=false)):vH el (f+1) s=some ([],s):=by rw[vH,if_neg h]
theorem a2Y {el:Bs->Option (Nd×Bs)}{f:Nat}{s:Bs}(h:[60].isPrefixOf s=true/\[60,47].isPrefixOf s=false)(h1:el s=none):vH el (f+1) s=none:=by rw[vH,if_pos h,h1]
theorem a6W {el:Bs->Option (Nd×Bs)}{f:Nat}{s r:Bs}{k:Nd}(h:[60].isPrefixOf s=true/\[60,47].isPrefixOf s=false)(h1:el s=some (k,r)):vH el (f+1) s=vG [k] (vH el f r):=by rw[vH,if_pos h,h1]
theorem nodeInfo:(prog.info? 36).map (fun i=>(i.zero,i.size,i.bytes))=some (some (.agg #[.string ⟨#[]⟩,.slice none 0 0,.slice none 0 0]),3,64):=by kernel_rfl
theorem oN {w:ag}{B k n g cap:Nat}{e:TypeId}{xs:List ah}(h:w.ownsRow B e k (.slice (some ⟨g,0,none⟩) n cap) n xs)(j:Nat)(v:ah):(w.setCell ⟨g,j,none⟩ v).ownsRow B e k (.slice (some ⟨g,0,none⟩) n cap) n (xs.set j v):=by
 obtain⟨h1,h2⟩:=h;refine⟨by rw[List.length_set];exact h1,?_⟩;rcases h2 with⟨h2,_⟩|⟨g',cap',cur,h3,h4,h5,h6,h7,h8,h9⟩
 ·cases h2
 ·cases h3;refine .inr ⟨g,cap,cur.setIfInBounds j v,rfl,h4,heap_setCell_same w g j cur e v h5,h6,h7,by simpa using h8,?_⟩;rw[<- h9,Array.toList_setIfInBounds,List.take_set]
theorem Zy {w:ag}{B k n g cap:Nat}{e:TypeId}{xs:List ah}(h:w.ownsRow B e k (.slice (some ⟨g,0,none⟩) n cap) n xs)(j:Nat):w.frozen? ⟨g,j,none⟩=false:=by
 rcases h.2 with⟨h2,_⟩|⟨g',cap',cur,h3,h4,h5, -⟩
 ·cases h2
 ·cases h3;exact frozen_of_row w g j cur e h5
theorem DR {w:ag}{B k n g cap:Nat}{e:TypeId}{xs:List ah}(h:w.ownsRow B e k (.slice (some ⟨g,0,none⟩) n cap) n xs){j:Nat}{u:ah}(hj:xs[j]? =some u):w.cell? (ak g j)=some u:=by
 obtain⟨g',h1,h2⟩:=dF h j u hj;cases h1;exact h2
theorem a6X (K:List V3)(a b c:ah):(dJ K++[a,b,c])[K.length*3]? =some a/\(dJ K++[a,b,c])[K.length*3+1]? =some b/\(dJ K++[a,b,c])[K.length*3+2]? =some c:=by
 have h:(dJ K).length=K.length*3:=by
  induction K with
  |nil=>rfl
  |cons x r ih=>simp[dJ,ih];omega
 refine⟨?_,?_,?_⟩
 ·rw[iK (by omega),h,Nat.sub_self];rfl
 ·rw[iK (by omega),h,Nat.add_sub_cancel_left];rfl
 ·rw[iK (by omega),h,Nat.add_sub_cancel_left];rfl
theorem DT:∀K:List V3,(dJ K).length=K.length*3
 |[]=>rfl
 |x::r=>by simp[dJ,DT r];omega
def KdR (R N B:Nat)(c0 c1:ah)(o:Option (List Nd×Bs))(e:Ending)(w:ag):Prop:=∃(oK:Option Addr) (nK cK:Nat),NB N c0 c1 (.slice oK nK cK) w/\((o=none/\e=.returned (.bool false))\/∃(ks:List Nd) (r:Bs) (K:List V3),o=some (ks,r)/\e=.returned (.bool true)/\RD R r w/\w.ownsRow B 36 3 (.slice oK nK cK) K.length (dJ K)/\KR (fun b=>B<=b) w K ks)
theorem aaN (K:List V3)(x y z a b c:ah):(((dJ K++[x,y,z]).set (K.length*3) a).set (K.length*3+1) b).set (K.length*3+2) c=dJ K++[a,b,c]:=by
 have h:=DT K;rw[List.set_append_right _ _ (by omega),List.set_append_right _ _ (by omega),List.set_append_right _ _ (by omega),h,Nat.sub_self,Nat.add_sub_cancel_left,Nat.add_sub_cancel_left];rfl
theorem bA.Vj {r n g:Nat}{A B:ag}(h:bA r n A B)(i:Nat)(v:ah)(hg:A.heap.size<=g):bA r n A (B.setCell ⟨g,i,none⟩ v):=
 h.grown (bO.set g i B v).grown (fun b hb=>by cases hb;exact hg)
def PZ (N g q cap n:Nat)(a b c:ah)(w V:ag):Prop:=V=(((w.setCell ⟨g,q,none⟩ a).setCell ⟨g,q+1,none⟩ b).setCell ⟨g,q+2,none⟩ c).setCell ⟨N,2,none⟩ (.slice (some ⟨g,0,none⟩) n cap)\/V=(((w.setCell ⟨N,2,none⟩ (.slice (some ⟨g,0,none⟩) n cap)).setCell ⟨g,q,none⟩ a).setCell ⟨g,q+1,none⟩ b).setCell ⟨g,q+2,none⟩ c
theorem Zz {R N g q cap n:Nat}{a b c:ah}{w V:ag}{s:Bs}(h:PZ N g q cap n a b c w V)(hr:RD R s w)(h1:R≠N)(h2:R≠g):RD R s V:=by
 rcases h with rfl|rfl
 ·exact(((hr.tX _ _ h2).tX _ _ h2).tX _ _ h2).tX _ _ h1
 ·exact(((hr.tX _ _ h1).tX _ _ h2).tX _ _ h2).tX _ _ h2
theorem a6Y {N g q cap n:Nat}{a b c c0 c1 c2:ah}{w V:ag}(h:PZ N g q cap n a b c w V)(hr:NB N c0 c1 c2 w)(h2:g≠N):NB N c0 c1 (.slice (some ⟨g,0,none⟩) n cap) V:=by
 rcases h with rfl|rfl
 ·exact(((hr.keep (bO.set g _ _ _) h2).keep (bO.set g _ _ _) h2).keep (bO.set g _ _ _) h2).set2 _
 ·exact(((hr.set2 _).keep (bO.set g _ _ _) h2).keep (bO.set g _ _ _) h2).keep (bO.set g _ _ _) h2
theorem a2Z {N g cap B:Nat}{K:List V3}{a b c x y z:ah}{w V:ag}(h:PZ N g (K.length*3) cap (K.length+1) a b c w V)(ho:w.ownsRow B 36 3 (.slice (some ⟨g,0,none⟩) (K.length+1) cap) (K.length+1) (dJ K++[x,y,z]))(hN:N<B):
  V.ownsRow B 36 3 (.slice (some ⟨g,0,none⟩) (K.length+1) cap) (K++[(a,b,c)]).length (dJ (K++[(a,b,c)])):=by
 rw[zK,List.length_append];show V.ownsRow B _ 3 _ (K.length+1) (dJ K++[a,b,c]);rw[<- aaN K x y z a b c];rcases h with rfl|rfl
 ·exact dh (oN (oN (oN ho _ _) _ _) _ _) (bO.set N _ _ _) hN
 ·exact oN (oN (oN (dh ho (bO.set N _ _ _) hN) _ _) _ _) _ _
theorem ZA {R N g q cap n:Nat}{a b c:ah}{A w V:ag}(h:PZ N g q cap n a b c w V)(hk:bA R N A w)(hg:A.heap.size<=g):bA R N A V:=by
 rcases h with rfl|rfl
 ·exact(((hk.Vj _ _ hg).Vj _ _ hg).Vj _ _ hg).trans (bA.tX _ _ _)
 ·exact(((hk.trans (bA.tX _ _ _)).Vj _ _ hg).Vj _ _ hg).Vj _ _ hg
theorem a3a {N g q cap n:Nat}{a b c:ah}{w V:ag}(h:PZ N g q cap n a b c w V)(k:Nat)(h1:k≠N)(h2:k≠g):V.heap[k]? =w.heap[k]? :=by
 rcases h with rfl|rfl
 ·rw[aY _ _ _ k h1,aY _ _ _ k h2,aY _ _ _ k h2,aY _ _ _ k h2]
 ·rw[aY _ _ _ k h2,aY _ _ _ k h2,aY _ _ _ k h2,aY _ _ _ k h1]
theorem ZB {R N f m cap g cK:Nat}{oK:Option Addr}{W w1 w2 w5 V:ag}{K:List V3}{acc:List Nd}{kid:Nd}{s r:Bs}{c0 c1 a b c:ah}{ob:Obj}{x y z:ah}{cs:Array ah}{tb:TypeId}
  (hne:R≠N) (hR:R<W.heap.size) (hNl:N<W.heap.size) (hlr:r.length<m) (hal:r.length+(acc.length+1)<=s.length)
  (HZ:vH (kT f) (s.length+1) s=vG (acc++[kid]) (vH (kT f) m r))
  (hown:w1.ownsRow W.heap.size 36 3 (.slice oK K.length cK) K.length (dJ K))
  (HKR:KR (fun b=>W.heap.size<=b/\(Value.slice oK K.length cK).ownBlock≠some b) w1 K acc)
  (hkp:bA R N W w1) (hnb:NB N c0 c1 (.slice oK K.length cK) w1) (zY:bO R w1 w2) (mQ:RD R r w2) (hk2:oJ (fun b=>w1.heap.size<=b) w2 a b c kid)
  (Yc:((w2.alloc ob).alloc (.cells cs tb)).drew.grownBy w5 (Value.slice oK K.length cK).ownBlock)
  (oQ:w5.ownsRow W.heap.size 36 3 (.slice (some ⟨g,0,none⟩) (K.length+1) cap) (K.length+1) (dJ K++[x,y,z]))
  (hat:(Value.slice oK K.length cK).ownBlock=some g\/g=((w2.alloc ob).alloc (.cells cs tb)).drew.heap.size)
  (hV:PZ N g (K.length*3) cap (K.length+1) a b c w5 V):
  RD R r V/\∃(acc':List Nd) (K':List V3) (rest':Bs) (m':Nat) (vK':ah),rest'.length<m'/\rest'.length+acc'.length<=s.length/\vH (kT f) (s.length+1) s=vG acc' (vH (kT f) m' rest')/\RD R rest' V/\NB N c0 c1 vK' V/\V.ownsRow W.heap.size 36 3 vK' K'.length (dJ K')/\KR (fun b=>W.heap.size<=b/\vK'.ownBlock≠some b) V K' acc'/\bA R N W V:=by
 have q0:=(oQ.lt g rfl).1;have Ng:=hkp.size;have Wp:=zY.size;have afD:∀q,(Value.slice oK K.length cK).ownBlock=some q->q<w1.heap.size:=fun q hq=>(hown.lt q hq).2;have eU:∀q,q<w2.heap.size->((w2.alloc ob).alloc (.cells cs tb)).drew.heap[q]? =w2.heap[q]? :=fun q hq=>((bT (w2.alloc ob) (.cells cs tb)).block q (by have:=(bT w2 ob).size;omega)).trans ((bT w2 ob).block q hq);have sU:w2.heap.size+2=((w2.alloc ob).alloc (.cells cs tb)).drew.heap.size:=by
  show _=((w2.alloc ob).alloc (.cells cs tb)).heap.size;simp
 have e5:∀q,q<w2.heap.size->(Value.slice oK K.length cK).ownBlock≠some q->w5.heap[q]? =w2.heap[q]? :=fun q hq hn=>(Yc.block q (by omega) (fun e=>hn e.symm)).trans (eU q hq);have eV:∀q,q<w2.heap.size->(Value.slice oK K.length cK).ownBlock≠some q->q≠N->V.heap[q]? =w2.heap[q]? /\ q≠g:=fun q hq hn hN=>by
  have hg:q≠g:=by
   rintro rfl;rcases hat with hat|hat
   ·exact hn hat
   ·omega
  exact⟨(a3a hV q hN hg).trans (e5 q hq hn),hg⟩
 have MW:RD R r w5:=by
  unfold RD at mQ⊢;rw[e5 R (aI mQ) (fun e=>own_ne hown hR e.symm)];exact mQ
 have J6:NB N c0 c1 (.slice oK K.length cK) w5:=by
  have h2:=hnb.keep zY hne;unfold NB at h2⊢;rw[e5 N (aI h2) (fun e=>own_ne hown hNl e.symm)];exact h2
 have k5:bA R N W w5:=by
  have h2:bA R N W ((w2.alloc ob).alloc (.cells cs tb)).drew:=(((hkp.trans (bA.gL zY)).trans (bA.of_below (bT w2 ob))).trans (bA.of_below (bT _ (.cells cs tb)))).trans (bA.of_below ⟨rfl,rfl,rfl,Nat.le_refl _,fun _ _=>rfl⟩);exact h2.grown Yc (fun b hb=>(hown.lt b hb).1)
 refine⟨Zz hV MW hne (by omega),acc++[kid],K++[(a,b,c)],r,m,.slice (some ⟨g,0,none⟩) (K.length+1) cap,hlr,by simpa using hal,HZ,Zz hV MW hne (by omega),a6Y hV J6 (by omega),a2Z hV oQ hNl,?_,ZA hV k5 q0⟩;refine KR.snoc (KR.turn (w:=w1) (fun q hq hlt=>?_) HKR) (oJ.turn (w:=w2) (fun q hq hlt=>?_) kid hk2)
 ·obtain⟨h1,h2⟩:=eV q (by omega) hq.2 (by omega);refine⟨⟨hq.1,fun e=>h2 (by cases e;rfl)⟩,h1.trans (zY.block q hlt (by omega))⟩
 ·obtain⟨h1,h2⟩:=eV q hlt (fun e=>by have:=afD q e;omega) (by omega);exact⟨⟨by omega,fun e=>h2 (by cases e;rfl)⟩,h1⟩
end
section
open Go.RowKit
set_option maxRecDepth 20000
theorem a3b (R N f:Nat)(IH:El R f)(s:Bs)(c0 c1:ah)(W:ag)(h:RD R s W)(hN:NB N c0 c1 (.slice none 0 0) W)(hne:R≠N)(hl:s.length<=10000)(hf:s.length<f):
  au 37 #[ay R,ay N] W fun e w'=>bA R N W w'/\KdR R N W.heap.size c0 c1 (vH (kT f) (s.length+1) s) e w':=by
 have hR:=h.lt;have hNl:=hN.lt;obtain⟨i0,hi,hz0,hz1,hz2⟩:=info_parts nodeInfo;go_enter func37,ntmps37;go_wp2_with fail
 go_loopw [] (fun wr=>∃(acc:List Nd) (K:List V3) (rest:Bs) (m:Nat) (vK:ah),rest.length<m/\rest.length+acc.length<=s.length/\vH (kT f) (s.length+1) s=vG acc (vH (kT f) m rest)/\RD R rest wr/\NB N c0 c1 vK wr/\wr.ownsRow W.heap.size 36 3 vK K.length (dJ K)/\KR (fun b=>W.heap.size<=b/\vK.ownBlock≠some b) wr K acc/\bA R N W wr) (fun wr=>left R wr)
 case atStart=>exact⟨[],[],s,s.length+1,.slice none 0 0,by omega,by simp,(Zm _).symm,h,hN,eH _ _ _ _,trivial,bA.of_below (aG _ _)⟩
 case round=>
  obtain⟨acc,K,rest,m,vK,hm,hal,heq,hrd,hnb,hown,hkr,hkp⟩:=hrel;have HQ:=aj heq;have HKR:=aj hkr;clear heq hkr;obtain⟨oK,cK,rfl⟩:=qi hown;obtain⟨m,rfl⟩:∃g,m=g+1:=⟨m-1,by omega⟩;have hsz:=hkp.size;have HL:Hid (left R wr=rest.length):=hrd.left;have cR:=hrd.cell;have HKK:Hid (KR (fun b=>W.heap.size<=b) wr K acc):=KR.turn (fun b hb _=>⟨hb.1,rfl⟩) HKR.out;cases hp:[60].isPrefixOf rest with
  |false=>
   have HZ:Hid (vH (kT f) (s.length+1) s=some (acc,rest)):=(by rw[HQ.out,RU (by rw[hp];simp)];simp[vG]:vH (kT f) (s.length+1) s=some (acc,rest));go_wp2_with(go_at_call 68;refine(ic rest [60] false _ hp).mono ?_;rintro e w1 ⟨rfl,rfl⟩);go_ret;exact⟨hkp,oK,_,cK,hnb,.inr ⟨acc,rest,K,HZ.out,rfl,hrd,hown,HKK.out⟩⟩
  |true=>
   cases hq:[60,47].isPrefixOf rest with
   |true=>
    have HZ:Hid (vH (kT f) (s.length+1) s=some (acc,rest)):=(by rw[HQ.out,RU (by rw[hq];simp)];simp[vG]:vH (kT f) (s.length+1) s=some (acc,rest));go_wp2_with(go_at_call 68;first|(refine(ic rest [60,47] true _ hq).mono ?_;rintro e w1 ⟨rfl,rfl⟩)|(refine(ic rest [60] true _ hp).mono ?_;rintro e w1 ⟨rfl,rfl⟩));go_ret;exact⟨hkp,oK,_,cK,hnb,.inr ⟨acc,rest,K,HZ.out,rfl,hrd,hown,HKK.out⟩⟩
   |false=>
    have HE:=IH rest wr (by omega) (by omega) hrd;cases hv:kT f rest with
    |none=>
     have HZ:Hid (vH (kT f) (s.length+1) s=none):=(by rw[HQ.out,a2Y ⟨hp,hq⟩ hv];rfl:vH (kT f) (s.length+1) s=none);have HE1:=HE.mono (R':=fun e w'=>bO R wr w'/\∃(s0:aC) (o1:Option Addr) (n1 k1:Nat) (o2:Option Addr) (n2 k2:Nat),e=.returned (.tuple #[.agg #[.string s0,.slice o1 n1 k1,.slice o2 n2 k2],.bool false])) (fun e w' h=>by
      refine⟨h.1,?_⟩;obtain⟨s0,o1,n1,k1,o2,n2,k2,h2|⟨n,r,h2, -⟩⟩:=h.2
      ·exact⟨s0,o1,n1,k1,o2,n2,k2,h2.2⟩
      ·rw[hv] at h2;cases h2)
     clear HE hv;go_wp2_with(first|(go_at_call 17;refine HE1.mono ?_;rintro e w2 ⟨zY,s0,o1,n1,k1,o2,n2,k2,rfl⟩)|(go_at_call 68;first|(refine(ic rest [60,47] false _ hq).mono ?_;rintro e w1 ⟨rfl,rfl⟩)|(refine(ic rest [60] true _ hp).mono ?_;rintro e w1 ⟨rfl,rfl⟩)));go_ret;exact⟨(hkp.trans (bA.gL zY)).trans (bA.of_below (bT w2 _)),oK,_,cK,(hnb.keep zY hne).al _,.inl ⟨HZ.out,rfl⟩⟩
    |some p=>
     obtain⟨kid,r⟩:=p;have hlr:=RH _ _ _ hv;simp only at hlr;have HZ:Hid (vH (kT f) (s.length+1) s=vG (acc++[kid]) (vH (kT f) m r)):=(by rw[HQ.out,a6W ⟨hp,hq⟩ hv,Zn]:vH (kT f) (s.length+1) s=vG (acc++[kid]) (vH (kT f) m r));have HE1:=HE.mono (R':=fun e w'=>bO R wr w'/\∃(s0:aC) (o1:Option Addr) (n1 k1:Nat) (o2:Option Addr) (n2 k2:Nat),e=.returned (.tuple #[.agg #[.string s0,.slice o1 n1 k1,.slice o2 n2 k2],.bool true])/\RD R r w'/\oJ (fun b=>wr.heap.size<=b) w' (.string s0) (.slice o1 n1 k1) (.slice o2 n2 k2) kid) (fun e w' h=>by
      refine⟨h.1,?_⟩;obtain⟨s0,o1,n1,k1,o2,n2,k2,h2|⟨n,r',h2,h3,h4,h5⟩⟩:=h.2
      ·rw[hv] at h2;cases h2.1
      ·rw[hv] at h2;cases h2;exact⟨s0,o1,n1,k1,o2,n2,k2,h3,h4,h5⟩)
     clear HE hv;go_upto_region 5 with(first|(go_at_call 17;refine HE1.mono ?_;rintro e w2 ⟨zY,s0,o1,n1,k1,o2,n2,k2,rfl,mQ,hk2⟩)|(go_at_call 68;first|(refine(ic rest [60,47] false _ hq).mono ?_;rintro e w1 ⟨rfl,rfl⟩)|(refine(ic rest [60] true _ hp).mono ?_;rintro e w1 ⟨rfl,rfl⟩)));have nbU:=(hnb.keep zY hne).al (.cells #[.string s0,.slice o1 n1 k1,.slice o2 n2 k2] 36);have rdU:=mQ.al (.cells #[.string s0,.slice o1 n1 k1,.slice o2 n2 k2] 36);have owU:=World.ownsRow.alloc (dh hown zY hR) (.cells #[.string s0,.slice o1 n1 k1,.slice o2 n2 k2] 36);have bxU:=dw w2 #[.string s0,.slice o1 n1 k1,.slice o2 n2 k2] 36;have szU:w2.heap.size<(w2.alloc (.cells #[.string s0,.slice o1 n1 k1,.slice o2 n2 k2] 36)).heap.size:=aI bxU;have neU:∀b,(Value.slice oK K.length cK).ownBlock=some b->b<w2.heap.size:=fun b hb=>((dh hown zY hR).lt b hb).2;have Wp:=zY.size;obtain⟨U,hU⟩:∃U,w2.alloc (.cells #[.string s0,.slice o1 n1 k1,.slice o2 n2 k2] 36)=U:=⟨_,rfl⟩;rw[hU] at nbU rdU owU bxU szU⊢;obtain⟨KB,hKB⟩:∃KB,w2.heap.size=KB:=⟨_,rfl⟩;rw[hKB] at bxU szU neU Wp⊢;have x0:=aD bxU 0 (.string s0) rfl;have x1:=aD bxU 1 (.slice o1 n1 k1) rfl;have x2:=aD bxU 2 (.slice o2 n2 k2) rfl;have y2:=nbU.c2;have y2':=fun o=>bK o y2;have H0:=dw U #[.string ⟨#[]⟩,.slice none 0 0,.slice none 0 0] 36;have zU:W.heap.size<=U.heap.size:=by omega
     have hix:(K.length:Int)<(K.length:Int)+1:=by omega
     have hkb:(K.length:Int)<=10000:=by have:=HKR.out.len;omega
     have x0':=fun o=>bK o x0;have x1':=fun o=>bK o x1;have x2':=fun o=>bK o x2
     go_region_law ((refine step_append_lies _ rfl (.tmp 30) (.tmp 33) 34 rfl W.heap.size 36 i0 (.agg #[.string ⟨#[]⟩,.slice none 0 0,.slice none 0 0]) 3 64 underlying34 hi hz0 hz1 hz2 rfl (by decide) (.slice oK K.length cK) K.length (dJ K) rfl (World.ownsRow.alloc owU _) ⟨U.heap.size,0,none⟩ 1 1 [.string ⟨#[]⟩,.slice none 0 0,.slice none 0 0] rfl rfl (World.news_of_block H0) (fun u hu=>by simp at hu;rcases hu with rfl|rfl|rfl<;>rfl) (by decide) (by rw[bq];omega) (by omega) (by simp;omega) _ rfl ?_;intro g cap w5 oQ Yc hat hlt;have g0:=DR oQ (a6X K _ _ _).1;have g1:=DR oQ (a6X K _ _ _).2.1;have g2:=DR oQ (a6X K _ _ _).2.2;have gf:=Zy oQ;have q0:=(oQ.lt g rfl).1;have q1:¬N=g:=(by omega);have q2:¬g=N:=(by omega);have J6:=NB.grown (k:=Yc) (h:=by exact nbU.al _) (hne:=own_ne owU hNl);have m2:=J6.c2;have mf:=J6.di))
     all_goals(
      subst hU;have FIN:=fun V hV=>ZB (V:=V) hne hR hNl (show r.length<m by omega) (show r.length+(acc.length+1)<=s.length by omega) HZ.out hown HKR.out hkp hnb zY mQ hk2 Yc oQ hat hV;have MEA:∀V,PZ N g (K.length*3) cap (K.length+1) (.string s0) (.slice o1 n1 k1) (.slice o2 n2 k2) w5 V->left R V<left R w1:=fun V hV=>by have h1:=HL.out;have h2:=(FIN V hV).1.left;omega
      go_wp2_with fail
      go_roundw
      case rel=>exact(FIN _ (by first|exact Or.inl (by with_reducible rfl)|exact Or.inr (by with_reducible rfl))).2
      case measure=>exact MEA _ (by first|exact Or.inl (by with_reducible rfl)|exact Or.inr (by with_reducible rfl)))
theorem NB.nS {Z R N:Nat}{c0 c1 c2:ah}{w w':ag}(h:NB Z c0 c1 c2 w)(k:bA R N w w')(h1:Z≠R)(h2:Z≠N):NB Z c0 c1 c2 w':=by
 have:=h.lt;unfold NB at h⊢;rw[k.block Z this h1 h2];exact h
theorem Gt {R N B k n:Nat}{e:TypeId}{v:ah}{xs:List ah}{w w':ag}(h:w.ownsRow B e k v n xs)(hk:bA R N w w')(hR:R<B)(hN:N<B):w'.ownsRow B e k v n xs:=by
 refine⟨h.1,?_⟩;rcases h.2 with hn|⟨g,cap,cur,rfl,hb,hgg,rest⟩
 ·exact .inl hn
 ·refine .inr ⟨g,cap,cur,rfl,hb,?_,rest⟩;rw[hk.block g (aI hgg) (by omega) (by omega)];exact hgg
theorem Vk {B B' k n:Nat}{e:TypeId}{v:ah}{xs:List ah}{w:ag}(h:w.ownsRow B e k v n xs)(hb:B'<=B):w.ownsRow B' e k v n xs:=by
 refine⟨h.1,?_⟩;rcases h.2 with hn|⟨g,cap,cur,h1,h2,rest⟩
 ·exact .inl hn
 ·exact .inr ⟨g,cap,cur,h1,by omega,rest⟩
theorem bO.a7a {R Z:Nat}{W w:ag}(h:bO R W w)(hZ:W.heap.size<=Z)(i:Nat)(v:ah):bO R W (w.setCell ⟨Z,i,none⟩ v):=
 h.low ((aG _ w).setCell (p:=⟨Z,i,none⟩) hZ v)
abbrev ZC (Z:Nat)(a b c:ah)(w:ag):ag:=((w.setCell ⟨Z,0,none⟩ a).setCell ⟨Z,1,none⟩ b).setCell ⟨Z,2,none⟩ c
theorem rV {R Z:Nat}{W w:ag}(h:bO R W w)(hZ:W.heap.size<=Z)(a b c:ah):bO R W (ZC Z a b c w):=((h.a7a hZ _ _).a7a hZ _ _).a7a hZ _ _
theorem ZE {R Z U:Nat}{W w:ag}{nm:Bs}{vA vK:ah}{ats:List (Bs×Bs)}{K:List V3}{ks:List Nd}{z:Bs}(hl:nm.length<=maxLen)(Hu:∀x∈ats,x.1.length<=maxLen/\x.2.length<=maxLen)
  (ow:w.ownsRow U 100 2 vA ats.length (bJ ats)) (owK:w.ownsRow U 36 3 vK K.length (dJ K)) (hk:KR (fun b=>U<=b) w K ks) (rd:RD R z w) (hZ:W.heap.size<=Z) (hU:Z<U) (Ai:R≠Z):
  RD R z (ZC Z (.string ⟨nm.toArray⟩) vA vK w)/\oJ (fun b=>W.heap.size<=b) (ZC Z (.string ⟨nm.toArray⟩) vA vK w) (.string ⟨nm.toArray⟩) vA vK (.mk nm ats ks):=by
 refine⟨((rd.tX _ _ Ai).tX _ _ Ai).tX _ _ Ai,?_⟩;refine oJ.turn (Q:=fun b=>U<=b) (w:=w) (fun b hb _=>⟨by omega,?_⟩) _ (oJ.make hl (yF.turn (yF.Zp ow Hu) (fun b hb _=>⟨(ow.lt b hb).1,rfl⟩)) owK hk (fun b hb=>(owK.lt b hb).1));have hbz:b≠Z:=by omega
 rw[aY _ _ _ b hbz,aY _ _ _ b hbz,aY _ _ _ b hbz]
theorem a7b {f:Nat}{s:Bs}(h:[60].isPrefixOf s=false):kT (f+1) s=none:=by rw[kT,if_neg (by rw[h];simp)]
theorem a3d {f:Nat}{s r:Bs}(h:[60].isPrefixOf s=true)(hr:s.drop 1=r)(h1:iZ r=[]):kT (f+1) s=none:=by rw[kT,if_pos h,hr,if_pos h1]
theorem a3e {f:Nat}{s r:Bs}(h:[60].isPrefixOf s=true)(hr:s.drop 1=r)(h2:uK ((uJ r).length+1) (uJ r)=none):kT (f+1) s=none:=by
 rw[kT,if_pos h,hr,h2];split<;>rfl
theorem a3f {f:Nat}{s r y:Bs}{ats:List (Bs×Bs)}(h:[60].isPrefixOf s=true)(hr:s.drop 1=r)(h1:iZ r≠[])(h2:uK ((uJ r).length+1) (uJ r)=some (ats,y))(h3:[47,62].isPrefixOf y=true):kT (f+1) s=some (.mk (iZ r) ats [],y.drop 2):=by
 rw[kT,if_pos h,hr,if_neg h1,h2];show(if[47,62].isPrefixOf y=true then some (Nd.mk (iZ r) ats [],y.drop 2) else _)=_;rw[if_pos h3]
theorem a3g {f:Nat}{s r y:Bs}{ats:List (Bs×Bs)}(h:[60].isPrefixOf s=true)(hr:s.drop 1=r)(h1:iZ r≠[])(h2:uK ((uJ r).length+1) (uJ r)=some (ats,y))(h3:[47,62].isPrefixOf y=false)(h4:[62].isPrefixOf y=false):kT (f+1) s=none:=by
 rw[kT,if_pos h,hr,if_neg h1,h2];show(if[47,62].isPrefixOf y=true then _ else if[62].isPrefixOf y=true then _ else none)=_;rw[if_neg (by rw[h3];simp),if_neg (by rw[h4];simp)]
theorem ZF {f:Nat}{s r y x:Bs}{ats:List (Bs×Bs)}(h:[60].isPrefixOf s=true)(hr:s.drop 1=r)(h1:iZ r≠[])(h2:uK ((uJ r).length+1) (uJ r)=some (ats,y))(h3:[47,62].isPrefixOf y=false)(h4:[62].isPrefixOf y=true)(hx:y.drop 1=x):
  kT (f+1) s=match vH (kT f) (x.length+1) x with
   |none=>none
   |some k=>if(yE (iZ r)).isPrefixOf k.2=true then some (.mk (iZ r) ats k.1,k.2.drop (yE (iZ r)).length) else none:=by
 rw[kT,if_pos h,hr,if_neg h1,h2];show(if[47,62].isPrefixOf y=true then _ else if[62].isPrefixOf y=true then(match vH (kT f) ((y.drop 1).length+1) (y.drop 1) with
   |none=>none
   |some k=>if(yE (iZ r)).isPrefixOf k.2=true then some (Nd.mk (iZ r) ats k.1,k.2.drop (yE (iZ r)).length) else none) else none)=_
 rw[if_neg (by rw[h3];simp),if_pos h4,hx]
theorem J8 (R f:Nat)(IH:El R f):El R (f+1):=by
 intro s W hf hl h;have hR:=h.lt;have nbZ:=dw W #[.string ⟨#[]⟩,.slice none 0 0,.slice none 0 0] 36;have rd0:=h.al (.cells #[.string ⟨#[]⟩,.slice none 0 0,.slice none 0 0] 36);have k0:bO R W (W.alloc (.cells #[.string ⟨#[]⟩,.slice none 0 0,.slice none 0 0] 36)):=bO.of_below (bT W _);obtain⟨V0,Jd⟩:∃V,W.alloc (.cells #[.string ⟨#[]⟩,.slice none 0 0,.slice none 0 0] 36)=V:=⟨_,rfl⟩;have zb0:NB W.heap.size (.string ⟨#[]⟩) (.slice none 0 0) (.slice none 0 0) V0:=by rw[<- Jd];exact nbZ
 have Ai:R≠W.heap.size:=by omega
 rw[Jd] at rd0 k0;clear nbZ;cases hp:[60].isPrefixOf s with
 |false=>
  have HZ:Hid (kT (f+1) s=none):=a7b hp;go_enter func17,ntmps17;go_upto_region 1 with fail;clear Jd;go_wp2_with(go_at_call 33;refine(jQ R s [60] _ rd0 hp).mono ?_;rintro e w1 ⟨rfl,xu,k1⟩;have zb1:=zb0.keep k1 Ai;have a0:=zb1.c0;have a1:=zb1.c1;have a2:=zb1.c2;have af:=zb1.di);refine bodyPost_ret (v:=.tuple #[.agg #[.string ⟨#[]⟩,.slice none 0 0,.slice none 0 0],.bool false]) (by simp[results,results17,go_sem,a0,a1,a2]) rfl ⟨rV (k0.trans k1) ai _ _ _,⟨#[]⟩,none,0,0,none,0,0,.inl ⟨HZ.out,rfl⟩⟩
 |true=>
  have hlr:=iA hp;have SK1:=mO R s [60] V0 rd0 hp;obtain⟨r,hr⟩:∃r,s.drop 1=r:=⟨_,rfl⟩;have afB:1+r.length=s.length:=by rw[<- hr];exact hlr
  rw[show s.drop ([60]:Bs).length=r from hr] at SK1;have HP:Hid ([60].isPrefixOf s=true/\s.drop 1=r):=⟨hp,hr⟩;clear hlr hr hp;have hte:=Ah r;go_enter func17,ntmps17;go_upto_region 4 with(first|(go_at_call 34;refine(oM R r _ _ mQ nx (by omega)).mono ?_;rintro e w3 ⟨rfl,MU,k3⟩;have Vl:=zb2.keep k3 Ai;have K3:=K2.trans k3)|(go_at_call 35;refine(kF [32,61,34,60,62,47] _).mono ?_;rintro e w2 ⟨rfl,rfl⟩)|(go_at_call 33;refine SK1.mono ?_;rintro e w1 ⟨rfl,xu,k1⟩;have nx:=dw w1 #[.string ⟨([32,61,34,60,62,47]:Bs).toArray⟩] 9;have mQ:=xu.al (.cells #[.string ⟨([32,61,34,60,62,47]:Bs).toArray⟩] 9);have zb2:=(zb0.keep k1 Ai).al (.cells #[.string ⟨([32,61,34,60,62,47]:Bs).toArray⟩] 9);have K2:=(k0.trans k1).al (.cells #[.string ⟨([32,61,34,60,62,47]:Bs).toArray⟩] 9);clear xu));have nbU:=dw w3 #[.string ⟨(iZ r).toArray⟩,.slice none 0 0,.slice none 0 0] 36;have rdU:=MU.al (.cells #[.string ⟨(iZ r).toArray⟩,.slice none 0 0,.slice none 0 0] 36);have Np:=Vl.al (.cells #[.string ⟨(iZ r).toArray⟩,.slice none 0 0,.slice none 0 0] 36);have KU:=K3.al (.cells #[.string ⟨(iZ r).toArray⟩,.slice none 0 0,.slice none 0 0] 36);have sZ:=Vl.lt;have sK:=K3.size;have szU:=aI nbU;obtain⟨U,hU⟩:∃U,w3.alloc (.cells #[.string ⟨(iZ r).toArray⟩,.slice none 0 0,.slice none 0 0] 36)=U:=⟨_,rfl⟩;obtain⟨N,hN⟩:∃N,w3.heap.size=N:=⟨_,rfl⟩;have nb4:NB N (.string ⟨(iZ r).toArray⟩) (.slice none 0 0) (.slice none 0 0) U:=by rw[<- hU,<- hN];exact nbU
  rw[hU] at rdU Np KU szU⊢;rw[hN] at szU sZ sK⊢;clear nbU hU hN MU Vl K3 k3 mQ zb2 K2 nx k1 rd0 zb0 k0 Jd SK1;have Vm:R≠N:=by omega
  have hZN:W.heap.size≠N:=by omega
  have hZR:W.heap.size≠R:=by omega
  have hml:(iZ r).length<=maxLen:=by rw[bq];omega
  have b0:=nb4.c0;by_cases he:iZ r=[]
  ·have HZ:Hid (kT (f+1) s=none):=a3d HP.out.1 HP.out.2 he;rw[he] at b0;have a0:=Np.c0;have a1:=Np.c1;have a2:=Np.c2;have af:=Np.di;go_wp2_with fail;refine bodyPost_ret (v:=.tuple #[.agg #[.string ⟨#[]⟩,.slice none 0 0,.slice none 0 0],.bool false]) (by simp[results,results17,go_sem,a0,a1,a2]) rfl ⟨rV KU ai _ _ _,⟨#[]⟩,none,0,0,none,0,0,.inl ⟨HZ.out,rfl⟩⟩
  ·have hem:(iZ r).isEmpty=false:=by
    cases ht:iZ r with
    |nil=>exact absurd ht he
    |cons _ _=>rfl
   have AT:=Zv R N (uJ r) (.string ⟨(iZ r).toArray⟩) (.slice none 0 0) U rdU nb4 Vm (by omega);cases hv:uK ((uJ r).length+1) (uJ r) with
   |none=>
    have HZ:Hid (kT (f+1) s=none):=a3e HP.out.1 HP.out.2 hv;have OY:=AT.mono (R':=fun e w'=>bA R N U w'/\e=.returned (.bool false)) (fun e w' h=>by
     refine⟨h.1,?_⟩;obtain⟨vA, -,h2|⟨a,z,h2, -⟩⟩:=h.2
     ·exact h2.2
     ·rw[hv] at h2;cases h2)
    clear AT hv;go_wp2_with(go_at_call 36;refine OY.mono ?_;rintro e w5 ⟨k5,rfl⟩;have RV:=Np.nS k5 hZR hZN;have a0:=RV.c0;have a1:=RV.c1;have a2:=RV.c2;have af:=RV.di);refine bodyPost_ret (v:=.tuple #[.agg #[.string ⟨#[]⟩,.slice none 0 0,.slice none 0 0],.bool false]) (by simp[results,results17,go_sem,a0,a1,a2]) rfl ⟨rV (bA.keep KU k5 (by omega)) ai _ _ _,⟨#[]⟩,none,0,0,none,0,0,.inl ⟨HZ.out,rfl⟩⟩
   |some q=>
    obtain⟨ats,y⟩:=q;have hla:=J3 _ _ _ hv;have hly:y.length<=(uJ r).length:=by have:=hla.1;simp only at this;omega
    have HA:Hid (∀x∈ats,x.1.length<=maxLen/\x.2.length<=maxLen):=(fun x hx=>by have:=hla.2 x hx;rw[bq];omega:∀x∈ats,x.1.length<=maxLen/\x.2.length<=maxLen);clear hla;have HV:=aj hv;have OY:=AT.mono (R':=fun e w'=>bA R N U w'/\e=.returned (.bool true)/\RD R y w'/\∃oA cA,NB N (.string ⟨(iZ r).toArray⟩) (.slice oA ats.length cA) (.slice none 0 0) w'/\w'.ownsRow U.heap.size 100 2 (.slice oA ats.length cA) ats.length (bJ ats)) (fun e w' h=>by
     refine⟨h.1,?_⟩;obtain⟨vA,h0,h2|⟨a,z,h2,h3,h4,h5⟩⟩:=h.2
     ·rw[hv] at h2;cases h2.1
     ·rw[hv] at h2;cases h2;obtain⟨oA,cA,rfl⟩:=qi h5;exact⟨h3,h4,oA,cA,h0,h5⟩)
    clear AT hv;cases h3:[47,62].isPrefixOf y with
    |true=>
     have HZ:Hid (kT (f+1) s=some (.mk (iZ r) ats [],y.drop 2)):=a3f HP.out.1 HP.out.2 he HV.out h3;go_wp2_with(first|(go_at_call 36;refine OY.mono ?_;rintro e w5 ⟨k5,rfl,MW,oA,cA,J6,oQ⟩;have RV:=Np.nS k5 hZR hZN)|(go_at_call 33;refine(mO R y [47,62] _ MW h3).mono ?_;rintro e w6 ⟨rfl,aaP,k6⟩;have rd6:RD R (y.drop 2) w6:=aaP;have ZG:=J6.keep k6 Vm;have VF:=RV.keep k6 Ai;have Px:=dh oQ k6 (by omega);have K6:=(bA.keep KU k5 (by omega)).trans k6;clear aaP;have b0:=ZG.c0;have b1:=ZG.c1;have b2:=ZG.c2;have a0:=VF.c0;have a1:=VF.c1;have a2:=VF.c2;have af:=VF.di));refine bodyPost_ret (v:=.tuple #[.agg #[.string ⟨(iZ r).toArray⟩,.slice oA ats.length cA,.slice none 0 0],.bool true]) (by simp[results,results17,go_sem,a0,a1,a2]) rfl ⟨rV K6 ai _ _ _,_,_,_,_,_,_,_,.inr ⟨_,_,HZ.out,rfl,ZE (K:=[]) hml HA.out Px (eH _ _ _ _) trivial rd6 ai (by omega) Ai⟩⟩
    |false=>
     cases h4:[62].isPrefixOf y with
     |false=>
      have HZ:Hid (kT (f+1) s=none):=a3g HP.out.1 HP.out.2 he HV.out h3 h4;go_wp2_with(first|(go_at_call 36;refine OY.mono ?_;rintro e w5 ⟨k5,rfl,MW,oA,cA,J6,oQ⟩;have RV:=Np.nS k5 hZR hZN;have K5:=bA.keep KU k5 (by omega))|(have z6:=rd6;go_at_call 33;refine(jQ R y [62] _ z6 h4).mono ?_;rintro e w7 ⟨rfl,rd7,k7⟩;have Jg:=ZG.keep k7 Vm;have zb7:=VF.keep k7 Ai;have K7:=K6.trans k7;have b0:=Jg.c0;have b1:=Jg.c1;have b2:=Jg.c2;have a0:=zb7.c0;have a1:=zb7.c1;have a2:=zb7.c2;have af:=zb7.di)|(go_at_call 33;refine(jQ R y [47,62] _ MW h3).mono ?_;rintro e w6 ⟨rfl,rd6,k6⟩;have ZG:=J6.keep k6 Vm;have VF:=RV.keep k6 Ai;have Px:=dh oQ k6 (by omega);have K6:=K5.trans k6));refine bodyPost_ret (v:=.tuple #[.agg #[.string ⟨(iZ r).toArray⟩,.slice oA ats.length cA,.slice none 0 0],.bool false]) (by simp[results,results17,go_sem,a0,a1,a2]) rfl ⟨rV K7 ai _ _ _,_,_,_,_,_,_,_,.inl ⟨HZ.out,rfl⟩⟩
     |true=>
      have hlx:=iA h4;have SK2:=fun W h=>mO R y [62] W h h4;obtain⟨x,hx⟩:∃x,y.drop 1=x:=⟨_,rfl⟩;have amL:1+x.length=y.length:=by rw[<- hx];exact hlx
      rw[show y.drop ([62]:Bs).length=x from hx] at SK2;have HK:=ZF (f:=f) HP.out.1 HP.out.2 he HV.out h3 h4 hx;have KD0:=fun(c1:ah) (W:ag) (h:RD R x W) (hn:NB N (.string ⟨(iZ r).toArray⟩) c1 (.slice none 0 0) W)=>a3b R N f IH x _ c1 W h hn Vm (by omega) (by omega);clear hlx hx h4;cases hk:vH (kT f) (x.length+1) x with
      |none=>
       have HZ:Hid (kT (f+1) s=none):=(by rw[HK,hk]:kT (f+1) s=none);have KD:∀(c1:ah) (W:ag),RD R x W->NB N (.string ⟨(iZ r).toArray⟩) c1 (.slice none 0 0) W->au 37 #[ay R,ay N] W fun e w'=>bA R N W w'/\∃oK nK cK,NB N (.string ⟨(iZ r).toArray⟩) c1 (.slice oK nK cK) w'/\e=.returned (.bool false):=fun c1 W h hn=>(KD0 c1 W h hn).mono (fun e w' h=>by
        refine⟨h.1,?_⟩;obtain⟨oK,nK,cK,h0,h2|⟨a,z,K,h2, -⟩⟩:=h.2
        ·exact⟨oK,nK,cK,h0,h2.2⟩
        ·rw[hk] at h2;cases h2)
       clear hk HK KD0;go_wp2_with(first|(go_at_call 36;refine OY.mono ?_;rintro e w5 ⟨k5,rfl,MW,oA,cA,J6,oQ⟩;have RV:=Np.nS k5 hZR hZN;have K5:=bA.keep KU k5 (by omega))|(go_at_call 37;refine(KD _ _ rd7 Jg).mono ?_;rintro e w8 ⟨k8,oK,nK,cK,nb8,rfl⟩;have zb8:=zb7.nS k8 hZR hZN;have s7:=k7.size;have s6:=k6.size;have s5:=k5.size;have K8:=bA.keep K7 k8 (by omega);have b0:=nb8.c0;have b1:=nb8.c1;have b2:=nb8.c2;have a0:=zb8.c0;have a1:=zb8.c1;have a2:=zb8.c2;have af:=zb8.di)|(have z6:=rd6;go_at_call 33;refine(SK2 _ z6).mono ?_;rintro e w7 ⟨rfl,rd7,k7⟩;have Jg:=ZG.keep k7 Vm;have zb7:=VF.keep k7 Ai;have kN:=dh Px k7 (by omega);have K7:=K6.trans k7)|(go_at_call 33;refine(jQ R y [47,62] _ MW h3).mono ?_;rintro e w6 ⟨rfl,rd6,k6⟩;have ZG:=J6.keep k6 Vm;have VF:=RV.keep k6 Ai;have Px:=dh oQ k6 (by omega);have K6:=K5.trans k6));refine bodyPost_ret (v:=.tuple #[.agg #[.string ⟨(iZ r).toArray⟩,.slice oA ats.length cA,.slice oK nK cK],.bool false]) (by simp[results,results17,go_sem,a0,a1,a2]) rfl ⟨rV K8 ai _ _ _,_,_,_,_,_,_,_,.inl ⟨HZ.out,rfl⟩⟩
      |some q=>
       obtain⟨ks,z⟩:=q;have KD:∀(c1:ah) (W:ag),RD R x W->NB N (.string ⟨(iZ r).toArray⟩) c1 (.slice none 0 0) W->au 37 #[ay R,ay N] W fun e w'=>bA R N W w'/\∃oK nK cK,NB N (.string ⟨(iZ r).toArray⟩) c1 (.slice oK nK cK) w'/\e=.returned (.bool true)/\RD R z w'/\∃K:List V3,w'.ownsRow W.heap.size 36 3 (.slice oK nK cK) K.length (dJ K)/\KR (fun b=>W.heap.size<=b) w' K ks:=fun c1 W h hn=>(KD0 c1 W h hn).mono (fun e w' h=>by
        refine⟨h.1,?_⟩;obtain⟨oK,nK,cK,h0,h2|⟨a,z',K,h2,h3,h4,h5,h6⟩⟩:=h.2
        ·rw[hk] at h2;cases h2.1
        ·rw[hk] at h2;cases h2;exact⟨oK,nK,cK,h0,h3,h4,K,h5,h6⟩)
       have hs4:2+(iZ r).length<=9223372036854775807:=by omega
       have hs5:2+(iZ r).length+1<=9223372036854775807:=by omega
       cases h5:(yE (iZ r)).isPrefixOf z with
       |false=>
        have HZ:Hid (kT (f+1) s=none):=(by rw[HK,hk];show(if(yE (iZ r)).isPrefixOf z=true then _ else none)=_;rw[if_neg (by rw[h5];simp)]:kT (f+1) s=none);clear hk HK KD0;go_wp2_with(first|(go_at_call 36;refine OY.mono ?_;rintro e w5 ⟨k5,rfl,MW,oA,cA,J6,oQ⟩;have RV:=Np.nS k5 hZR hZN;have K5:=bA.keep KU k5 (by omega))|(have z8:=rd8;go_at_call 33;rw[Ht,Ht];refine(jQ R z (yE (iZ r)) _ z8 h5).mono ?_;rintro e w9 ⟨rfl,rd9,k9⟩;have nb9:=nb8.keep k9 Vm;have zb9:=zb8.keep k9 Ai;have K9:=K8.trans k9;clear b0;have b0:=nb9.c0;have b1:=nb9.c1;have b2:=nb9.c2;have a0:=zb9.c0;have a1:=zb9.c1;have a2:=zb9.c2;have af:=zb9.di)|(go_at_call 37;refine(KD _ _ rd7 Jg).mono ?_;rintro e w8 ⟨k8,oK,nK,cK,nb8,rfl,rd8,K,ow8,kr8⟩;have zb8:=zb7.nS k8 hZR hZN;have s7:=k7.size;have s6:=k6.size;have s5:=k5.size;have K8:=bA.keep K7 k8 (by omega);have oa8:=Gt kN k8 (by omega) (by omega);have b0:=nb8.c0)|(have z6:=rd6;go_at_call 33;refine(SK2 _ z6).mono ?_;rintro e w7 ⟨rfl,rd7,k7⟩;have Jg:=ZG.keep k7 Vm;have zb7:=VF.keep k7 Ai;have kN:=dh Px k7 (by omega);have K7:=K6.trans k7)|(go_at_call 33;refine(jQ R y [47,62] _ MW h3).mono ?_;rintro e w6 ⟨rfl,rd6,k6⟩;have ZG:=J6.keep k6 Vm;have VF:=RV.keep k6 Ai;have Px:=dh oQ k6 (by omega);have K6:=K5.trans k6));refine bodyPost_ret (v:=.tuple #[.agg #[.string ⟨(iZ r).toArray⟩,.slice oA ats.length cA,.slice oK nK cK],.bool false]) (by simp[results,results17,go_sem,a0,a1,a2]) rfl ⟨rV K9 ai _ _ _,_,_,_,_,_,_,_,.inl ⟨HZ.out,rfl⟩⟩
       |true=>
        have HZ:Hid (kT (f+1) s=some (.mk (iZ r) ats ks,z.drop (yE (iZ r)).length)):=(by rw[HK,hk];show(if(yE (iZ r)).isPrefixOf z=true then _ else none)=_;rw[if_pos h5]:kT (f+1) s=some (.mk (iZ r) ats ks,z.drop (yE (iZ r)).length));clear hk HK KD0;go_wp2_with(first|(go_at_call 36;refine OY.mono ?_;rintro e w5 ⟨k5,rfl,MW,oA,cA,J6,oQ⟩;have RV:=Np.nS k5 hZR hZN;have K5:=bA.keep KU k5 (by omega))|(have z8:=rd8;go_at_call 33;rw[Ht,Ht];refine(mO R z (yE (iZ r)) _ z8 h5).mono ?_;rintro e w9 ⟨rfl,rd9,k9⟩;have nb9:=nb8.keep k9 Vm;have zb9:=zb8.keep k9 Ai;have K9:=K8.trans k9;clear b0;have b0:=nb9.c0;have b1:=nb9.c1;have b2:=nb9.c2;have a0:=zb9.c0;have a1:=zb9.c1;have a2:=zb9.c2;have af:=zb9.di)|(go_at_call 37;refine(KD _ _ rd7 Jg).mono ?_;rintro e w8 ⟨k8,oK,nK,cK,nb8,rfl,rd8,K,ow8,kr8⟩;have zb8:=zb7.nS k8 hZR hZN;have s7:=k7.size;have s6:=k6.size;have s5:=k5.size;have K8:=bA.keep K7 k8 (by omega);have oa8:=Gt kN k8 (by omega) (by omega);have b0:=nb8.c0)|(have z6:=rd6;go_at_call 33;refine(SK2 _ z6).mono ?_;rintro e w7 ⟨rfl,rd7,k7⟩;have Jg:=ZG.keep k7 Vm;have zb7:=VF.keep k7 Ai;have kN:=dh Px k7 (by omega);have K7:=K6.trans k7)|(go_at_call 33;refine(jQ R y [47,62] _ MW h3).mono ?_;rintro e w6 ⟨rfl,rd6,k6⟩;have ZG:=J6.keep k6 Vm;have VF:=RV.keep k6 Ai;have Px:=dh oQ k6 (by omega);have K6:=K5.trans k6));refine bodyPost_ret (v:=.tuple #[.agg #[.string ⟨(iZ r).toArray⟩,.slice oA ats.length cA,.slice oK nK cK],.bool true]) (by simp[results,results17,go_sem,a0,a1,a2]) rfl ⟨rV K9 ai _ _ _,_,_,_,_,_,_,_,.inr ⟨_,_,HZ.out,rfl,ZE (U:=U.heap.size) (K:=K) hml HA.out (dh oa8 k9 (by omega)) (dh (Vk ow8 (by omega)) k9 (by omega)) (KR.turn (fun b hb _=>⟨by omega,k9.block b (by assumption) (by omega)⟩) kr8) rd9 ai (by omega) Ai⟩⟩
end
section
open Go.RowKit
abbrev St:=Bs×List (Bs×Bs)×Int
def st (f:Fl):St:=(f.name,f.attrs,f.parent)
theorem LE.me {E:Nat->Addr}{w:ag}(h:LE E w):ME E w:=⟨h.de.c2,h.de.c4,h.de.c6,h.de.c7,h.de.c8,h.de.c10⟩
def LvE (W:ag)(LB B DB:Nat)(M:Dm)(nx c:Nat)(r:Int->Nat)(rl:List Rl)(l:List Pc)(w h:Nat):Prop:=∃tg MB p rv qs pv cv,LvS W LB B tg DB MB p M nx c r rl rv qs pv w h cv/\qs.map dI.pc=l
theorem LvE.base {W:ag}{LB B DB:Nat}{M:Dm}{nx c:Nat}{r:Int->Nat}{rl:List Rl}{l:List Pc}{w h:Nat}(hl:LvE W LB B DB M nx c r rl l w h):B<=LB/\B<=DB/\B<=W.heap.size:=by
 obtain⟨tg,MB,p,rv,qs,pv,cv,h1,h2⟩:=hl;exact⟨h1.base,(h1.ds.w.low _ _ h1.ds.w.ji).1,h1.ds.low⟩
theorem LvE.pic {W:ag}{LB B DB:Nat}{M:Dm}{nx c:Nat}{r:Int->Nat}{rl:List Rl}{l:List Pc}{w h:Nat}(hl:LvE W LB B DB M nx c r rl l w h)(hw1:1<=w)(hw:w<=40)(ug:1<=h)(hh:h<=40):
  au 15 #[ay LB] W fun e w'=>∃g cp,e=.returned (.agg #[aa w,aa h,.slice (some ⟨g,0,none⟩) (w*h) cp])/\w'.ownsRow W.heap.size 9 1 (.slice (some ⟨g,0,none⟩) (w*h) cp) (w*h) ((lW aN (l.map fK) w h).map .string)/\Below W.heap.size W w':=by
 obtain⟨tg,MB,p,rv,qs,pv,cv,h1,rfl⟩:=hl;exact MI h1 hw1 hw ug hh
end
section
open Go.RowKit
set_option maxRecDepth 20000
theorem a7d (E:Nat->Addr)(n:Nd)(c0 c1 c2:ah)(W:ag)(w h:Nat)(sh:aC)(rl:List Rl)(l:List Pc)(Zd:∀x∈rl,RlG x)(hpm:dV (l6 n) rl=.ok l)(hk:∀x∈l,iw (fK x))(hc:(ig n 1 0).1=0)(RS:∀V,Below W.heap.size W V->au 20 #[.string sh] V fun e w'=>∃o m cp,e=.returned (.tuple #[.slice o m cp,.nilIface])/\Hid (w'.ownsRow V.heap.size 109 3 (.slice o m cp) rl.length (eY rl))/\Below V.heap.size V w')(hE:LE E W)(hn:nG W c0 c1 c2 n)(hs:gz n<=1000000)(hw1:1<=w)(hw:w<=40)(ug:1<=h)(hh:h<=40):
  au 10 #[.agg #[c0,c1,c2],.string sh,.int .i64 w,.int .i64 h] W fun e w'=>Below W.heap.size W w'/\∃LB tg DB MB p rv qs pv cv,e=.returned (.tuple #[ay LB,.nilIface])/\LvS w' LB W.heap.size tg DB MB p (l6 n) (gz n) (gz n) (rkD n) rl rv qs pv w h cv/\qs.map dI.pc=l:=by
 obtain⟨sa,oa,na,ka,Ck,na',ka',rfl,rfl,rfl⟩:∃(sa:aC) (oa:Option Addr) (na ka:Nat) (Ck:Option Addr) (na' ka':Nat),c0=.string sa/\c1=.slice oa na ka/\c2=.slice Ck na' ka':=by
  obtain⟨nm,ats,ks⟩:=n;unfold nG at hn;obtain⟨h1, -,⟨o,cap,h2, -⟩,o',cap',h3, -⟩:=hn;exact⟨_,_,_,_,_,_,_,h1,h2,h3⟩
 have b0:=bT W (.cells #[.string sa,.slice oa na ka,.slice Ck na' ka'] 36);have hE0:=hE.below b0;have hn0:=hn.below b0;have kb:=dw W #[.string sa,.slice oa na ka,.slice Ck na' ka'] 36;go_enter func10,ntmps10;go_upto_region 1 with fail;obtain⟨U,hU⟩:∃U,W.alloc (.cells #[.string sa,.slice oa na ka,.slice Ck na' ka'] 36)=U:=⟨_,rfl⟩;rw[hU] at b0 hE0 hn0 kb⊢;have k0:=aD kb 0 _ rfl;have k1:=aD kb 1 _ rfl;have k2:=aD kb 2 _ rfl;clear hU kb;have DN:=a9X E n _ _ _ U hE0.ce hn0 hs hc;have RSU:=fun V (hV:Below U.heap.size U V)=>RS V (aH b0 hV);have P0:∀V,Below U.heap.size U V->au 21 #[.slice none 0 0,.int .i64 w,.int .i64 h] V fun e W=>∃g cp,e=.returned (.tuple #[.agg #[.int .i64 w,.int .i64 h,.slice (some ⟨g,0,none⟩) (w*h) cp],.nilIface])/\Below V.heap.size V W:=fun V hV=>(MG (hE0.below hV) (a6K V 0) (by simp) w h hw1 hw ug hh).mono fun e W ⟨h1,h2⟩=>by
  rcases h1 with⟨-,g,cp,h3, -⟩|⟨h1, -⟩
  ·exact⟨g,cp,h3,h2⟩
  ·exact absurd (fun x hx=>(by cases hx)) h1
 have PI:∀V B tg DB MB p o m cp B0,Below U.heap.size U V->jm B tg V DB MB p (l6 n) (gz n) (gz n) (rkD n)->V.ownsRow B0 109 3 (.slice o m cp) rl.length (eY rl)->au 22 #[ay DB,.slice o m cp] V fun e w'=>a2E E V (dV (l6 n) rl) e w'/\Below V.heap.size V w':=fun V B tg DB MB p o m cp B0 hV hd how=>Dv (l:=rl) (B0:=B0) ⟨hd,(hE0.below hV).ne,(oI hc).fit.1,(oI hc).fit.2,Zd,how⟩;rw[hpm] at PI;have HPM:=aj hpm;have HC:=aj hc;clear hpm hc RS;have hll:=Dw HPM.out;have PI':∀V B tg DB MB p o m cp B0,Below U.heap.size U V->jm B tg V DB MB p (l6 n) (gz n) (gz n) (rkD n)->V.ownsRow B0 109 3 (.slice o m cp) rl.length (eY rl)->au 22 #[ay DB,.slice o m cp] V fun e w'=>∃qs o m cp,e=.returned (.tuple #[.slice o m cp,.nilIface])/\Hid (qs.map dI.pc=l)/\wZ w' V.heap.size (.slice o m cp) qs/\Below V.heap.size V w':=fun V B tg DB MB p o m cp B0 hV hd how=>(PI V B tg DB MB p o m cp B0 hV hd how).mono fun e w' ⟨⟨qs,v,h1,h2,h3,h4,h5⟩,h6⟩=>by
  obtain⟨o,cp,rfl⟩:=aM h3;exact⟨qs,o,_,cp,h2,h1,⟨h3,h4,h5⟩,h6⟩
 have Rs:=aj hll;clear PI hll;have PP:∀V base v qs,Below U.heap.size U V->Hid (qs.map dI.pc=l)->wZ V base v qs->au 21 #[v,.int .i64 w,.int .i64 h] V fun e W=>∃g cp,e=.returned (.tuple #[.agg #[.int .i64 w,.int .i64 h,.slice (some ⟨g,0,none⟩) (w*h) cp],.nilIface])/\Hid (W.ownsRow V.heap.size 9 1 (.slice (some ⟨g,0,none⟩) (w*h) cp) (w*h) ((lW aN ((qs.map dI.pc).map fK) w h).map .string))/\Below V.heap.size V W:=fun V base v qs hV hq hp=>(MG (hE0.below hV) hp (by have h1:=Rs.out;rw[<- hq.out,List.length_map] at h1;exact h1) w h hw1 hw ug hh).mono fun e W ⟨h1,h2⟩=>by
  rcases h1 with⟨-,g,cp,h3,h4⟩|⟨h1, -⟩
  ·exact⟨g,cp,h3,h4,h2⟩
  ·exact absurd (fun(x:dI) hx=>hk x.pc (by rw[<- hq.out];exact List.mem_map_of_mem hx)) h1
 have HK:=aj hk;clear hk;go_wp2_with(first|(have hu:=q4;go_at_call 21;refine(PP _ _ _ qs (aH (aH b1 b2) (aH b3 (aH (bT w3 _) b4))) q4 p4).mono ?_;rintro e w5 ⟨g5,cp5,rfl,p5,b5⟩)|(go_at_call 22;refine(PI' _ _ _ _ _ _ _ _ _ _ (aH (aH b1 b2) (aH b3 (bT w3 _))) (hd.below (aH b2 (aH b3 (bT w3 _)))) (aQ or2.out (aH b3 (bT w3 _)))).mono ?_;rintro e w4 ⟨qs,o4,n4,c4,rfl,q4,p4,b4⟩)|(go_at_call 21;refine(P0 _ (aH b1 b2)).mono ?_;rintro e w3 ⟨g,cp,rfl,b3⟩)|(go_at_call 20;refine(RSU _ b1).mono ?_;rintro e w2 ⟨o2,m2,c2',rfl,or2,b2⟩)|(go_at_call 19;refine DN.mono ?_;rintro e w1 ⟨b1,DB,MB,tg,p,rfl,hd⟩))
 go_ret2
 have or5:=aQ or2.out (aH b3 (aH (bT w3 (.cells #[.int .i64 w,.int .i64 h,.slice (some ⟨g,0,none⟩) (w*h) cp] 47)) (aH b4 b5)));obtain⟨X,hX⟩:∃X,w5.alloc (.cells #[.int .i64 w,.int .i64 h,.slice (some ⟨g5,0,none⟩) (w*h) cp5] 47)=X:=⟨_,rfl⟩;have hXs:X.heap.size=w5.heap.size+1:=by rw[<- hX,dB]
 have bX:Below w5.heap.size w5 X:=by rw[<- hX];exact bT _ _
 have bL:=bT X (.cells #[ay DB,.slice o2 m2 c2',.slice o4 n4 c4,.int .i64 w,.int .i64 h,.slice (some ⟨g5,0,none⟩) (w*h) cp5] 67);have b34:=aH (bT w3 (.cells #[.int .i64 w,.int .i64 h,.slice (some ⟨g,0,none⟩) (w*h) cp] 47)) b4;have b5L:=aH b5 (aH bX bL);have b1L:=aH b2 (aH b3 (aH b34 b5L));have bW:=aH b0 (aH b1 b1L);have z1:=b0.size;have z2:=(aH b0 (aH b1 (aH b2 b3))).size;have z3:=(aH b0 (aH b1 (aH b2 (aH b3 b34)))).size;have z4:=(aH b0 (aH b1 (aH b2 (aH b3 (aH b34 (aH b5 bX)))))).size;have z5:=(bT w3 (.cells #[.int .i64 w,.int .i64 h,.slice (some ⟨g,0,none⟩) (w*h) cp] 47)).size;have hqk:∀x∈qs,iw (fK x.pc):=fun x hx=>HK.out x.pc (by rw[<- q4.out];exact List.mem_map_of_mem hx);have hql:qs.length<=1000:=by have h1:=Rs.out;rw[<- q4.out,List.length_map] at h1;exact h1
 have hd':=hd.below b1L;have zr:=b1.size;refine⟨by rw[hX];exact bW,w5.heap.size+1,tg,DB,MB,p,.slice o2 m2 c2',qs,.slice o4 n4 c4,.slice (some ⟨g5,0,none⟩) (w*h) cp5,rfl,by rw[hX];exact⟨by rw[<- hXs];exact dw _ _ _,by omega,⟨hd'.w.Zc z1,hd'.d,hd'.n,hd'.le,bW.size⟩,oI HC.out,Zd,eZ (aQ or5 (aH bX bL)) (by omega),(p4.below b5L).low (by omega),by rw[q4.out];exact HPM.out,hqk,hql,eZ (aQ p5.out (aH bX bL)) z3⟩,q4.out⟩
end
section
open Go.RowKit
theorem eG.put {M:Dm}(h:eG M){i:Int}{e:gH}(he:a2r e):eG (dZ M i e):=fun j x hx=>by
 unfold dZ at hx;split at hx
 ·cases hx;exact he
 ·exact h j x hx
theorem eG.cut {M:Dm}(h:eG M)(l:List Int):eG (nJ M l):=fun j x hx=>by
 unfold nJ at hx;split at hx
 ·cases hx
 ·exact h j x hx
theorem eG.out {M:Dm}(h:eG M){n:Int}{e o:gH}(ho:M e.parent=some o):eG (yl M n e o):=h.put (h _ o ho)
section
variable {E:Nat->Addr}{N:Nat}{tg:bP}{W:ag}{DB MB:Nat}{p:Int->Option Nat}{M:Dm}{nx c:Nat}{r:Int->Nat}
end
def DU:Bs:=[97,100,100]
def ng:Bs:=[114,101,109,111,118,101]
section
variable {E:Nat->Addr}{N:Nat}{tg:bP}{V:ag}{DB MB:Nat}{p:Int->Option Nat}{M:Dm}{nx c:Nat}{r:Int->Nat}
end
end
end Go.Proofs.YtecneflbncjhpaaGreatDoor

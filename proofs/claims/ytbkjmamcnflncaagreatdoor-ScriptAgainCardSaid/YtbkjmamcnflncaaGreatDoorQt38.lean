import Derived.Test.YtbkjmamcnflncaaGreatDoorQt36
import Derived.Test.YtbkjmamcnflncaaGreatDoorQt37
namespace Go.Proofs.YtbkjmamcnflncaaGreatDoor
open Go.Proofs.Tryz
set_option maxHeartbeats 4000000
variable{s r:Bs}{a v D F b:ax}{el:Bs->Option (Nd×Bs)}{w' A C B V W:ai}
section
def eB (c:UInt8):Bool:=c==32||c==61||c==34||c==60||c==62||c==47
def mB (c:UInt8):Bool:=c==60||c==62||c==38||c==34
def mg (s:Bs):Bs:=s.takeWhile (λc=> !eB c)
def yZ (s:Bs):Bs:=s.dropWhile (λc=> !eB c)
def tkM (s:Bs):Bs:=s.takeWhile (λc=> !mB c)
def Ow (s:Bs):Bs:=s.dropWhile (λc=> !mB c)
def M8 (u:Bs):Option (UInt8×Bs):=
 if[38,108,116,59].isPrefixOf u=true then some (60,u.drop 4)
 else if[38,103,116,59].isPrefixOf u=true then some (62,u.drop 4)
 else if[38,97,109,112,59].isPrefixOf u=true then some (38,u.drop 5)
 else if[38,113,117,111,116,59].isPrefixOf u=true then some (34,u.drop 6)
 else none
def Ji (a:Bs):Option (Bs×Bs)->Option (Bs×Bs)
 |none=>none
 |some p=>some (a++p.1,p.2)
def BF:Nat->Bs->Option (Bs×Bs)
 |0,_=>none
 |f+1,s=>if[34].isPrefixOf (Ow s)=true then some (tkM s,(Ow s).drop 1) else match M8 (Ow s) with
  |none=>none
  |some p=>Ji (tkM s++[p.1]) (BF f p.2)
def Dj (a:List (Bs×Bs)):Option (List (Bs×Bs)×Bs)->Option (List (Bs×Bs)×Bs)
 |none=>none
 |some p=>some (a++p.1,p.2)
def sQ (r:Bs):Option ((Bs×Bs)×Bs):=
 if mg r=[] then none
 else if[61,34].isPrefixOf (yZ r)=true then match BF (((yZ r).drop 2).length+1) ((yZ r).drop 2) with
  |none=>none
  |some p=>some ((mg r,p.1),p.2)
 else none
def za:Nat->Bs->Option (List (Bs×Bs)×Bs)
 |0,_=>none
 |f+1,s=>if[32].isPrefixOf s=true then match sQ (s.drop 1) with
   |none=>none
   |some p=>Dj [p.1] (za f p.2)
  else some ([],s)
def zS (a:List Nd):Option (List Nd×Bs)->Option (List Nd×Bs)
 |none=>none
 |some p=>some (a++p.1,p.2)
def Ab (el:Bs->Option (Nd×Bs)):Nat->Bs->Option (List Nd×Bs)
 |0,_=>none
 |f+1,s=>if[60].isPrefixOf s=true/\[60,47].isPrefixOf s=false then match el s with
   |none=>none
   |some p=>zS [p.1] (Ab el f p.2)
  else some ([],s)
def Jj (nm:Bs):Bs:=[60,47]++nm++[62]
def pG:Nat->Bs->Option (Nd×Bs)
  |0,_=>none
  |f+1,s=>if[60].isPrefixOf s=true then
      if mg (s.drop 1)=[] then none
      else match za ((yZ (s.drop 1)).length+1) (yZ (s.drop 1)) with
        |none=>none
        |some a=>if[47,62].isPrefixOf a.2=true then some (.mk (mg (s.drop 1)) a.1 [],a.2.drop 2)
          else if[62].isPrefixOf a.2=true then match Ab (pG f) ((a.2.drop 1).length+1) (a.2.drop 1) with
            |none=>none
            |some k=>if(Jj (mg (s.drop 1))).isPrefixOf k.2=true then some (.mk (mg (s.drop 1)) a.1 k.1,k.2.drop (Jj (mg (s.drop 1))).length) else none
          else none
    else none
theorem a4u (o:Option (Bs×Bs)):Ji [] o=o:=by cases o<;>rfl
theorem a4v (a b:Bs)(o:Option (Bs×Bs)):Ji a (Ji b o)=Ji (a++b) o:=by cases o<;>simp[Ji]
theorem a4w (o:Option (List (Bs×Bs)×Bs)):Dj [] o=o:=by cases o<;>rfl
theorem a4x (a b:List (Bs×Bs))(o:Option (List (Bs×Bs)×Bs)):Dj a (Dj b o)=Dj (a++b) o:=by cases o<;>simp[Dj]
theorem a4y (o:Option (List Nd×Bs)):zS [] o=o:=by cases o<;>rfl
theorem a4z (a b:List Nd)(o:Option (List Nd×Bs)):zS a (zS b o)=zS (a++b) o:=by cases o<;>simp[zS]
theorem M9 (P:UInt8->Bool)(s:Bs):(s.takeWhile P).length+(s.dropWhile P).length=s.length:=by
 rw[<- dO,List.takeWhile_append_dropWhile]
theorem FK (s:Bs):(mg s).length+(yZ s).length=s.length:=M9 _ s
theorem XY (s:Bs):(tkM s).length+(Ow s).length=s.length:=M9 _ s
theorem rC {w:Bs}(h:w.isPrefixOf s=true):w.length+(s.drop w.length).length=s.length:=by grind
theorem XZ {u:Bs}{c:UInt8}(h:M8 u=some (c,r)):r.length+4<=u.length:=by
 unfold M8 at h;grind
theorem a0p {a:Bs}{o:Option (Bs×Bs)}{p:Bs×Bs}(h:Ji a o=some p):∃q,o=some q/\p=(a++q.1,q.2):=by
 cases o with
 |none=>cases h
 |some q=>cases h;exact⟨q,rfl,rfl⟩
theorem a0q {a:List (Bs×Bs)}{o:Option (List (Bs×Bs)×Bs)}{p:List (Bs×Bs)×Bs}(h:Dj a o=some p):∃q,o=some q/\p=(a++q.1,q.2):=by
 cases o with
 |none=>cases h
 |some q=>cases h;exact⟨q,rfl,rfl⟩
theorem a0r {a:List Nd}{o:Option (List Nd×Bs)}{p:List Nd×Bs}(h:zS a o=some p):∃q,o=some q/\p=(a++q.1,q.2):=by
 cases o with
 |none=>cases h
 |some q=>cases h;exact⟨q,rfl,rfl⟩
theorem Oa:∀(f:Nat) (s:Bs) (p:Bs×Bs),BF f s=some p->p.1.length+p.2.length+1<=s.length
 |0,_,_,h=>by cases h
 |f+1,s,p,h=>by
  have c:=XY s;rw[BF] at h;split at h
  .rename_i k;grind
  .cases a:M8 (Ow s) with
   |none=>rw[a] at h;cases h
   |some q=>
    rw[a] at h;obtain⟨d,b,rfl⟩:=a0p h;have e:=Oa f _ _ b;have g:=XZ a;grind
theorem a4A {p:(Bs×Bs)×Bs}(h:sQ r=some p):p.1.1.length+p.1.2.length+p.2.length+3<=r.length:=by
 unfold sQ at h;have b:=FK r;split at h
 .cases h
 split at h
 .rename_i k;have c:=rC k;split at h
  .cases h
  .rename_i q a;cases h;have:=Oa _ _ _ a;grind
 .cases h
theorem Ob:∀(f:Nat) (s:Bs) (p:List (Bs×Bs)×Bs),za f s=some p->p.2.length+4*p.1.length<=s.length/\∀a∈p.1,a.1.length<=s.length/\a.2.length<=s.length
 |0,_,_,h=>by cases h
 |f+1,s,p,h=>by
  rw[za] at h;split at h
  .rename_i k;have d:=rC k;split at h
   .cases h
   .rename_i q c;have e:=a4A c;obtain⟨g,b,rfl⟩:=a0q h;have i:=Ob f _ _ b;grind
  .grind
theorem Y3 (a:∀s p,el s=some p->p.2.length+1<=s.length):∀(f:Nat) (s:Bs) (p:List Nd×Bs),Ab el f s=some p->p.2.length+p.1.length<=s.length
 |0,_,_,h=>by cases h
 |f+1,s,p,h=>by
  rw[Ab] at h;split at h
  .split at h
   .cases h
   .rename_i q c;have d:=a _ _ c;obtain⟨e,b,rfl⟩:=a0r h;have g:=Y3 a f _ _ b;grind
  .grind
theorem Y4:∀(f:Nat) (s:Bs) (p:Nd×Bs),pG f s=some p->p.2.length+1<=s.length
 |0,_,_,h=>by cases h
 |f+1,s,p,h=>by
  rw[pG] at h;split at h
  .rename_i k;have d:=rC k;have e:=FK (s.drop 1);split at h
   .cases h
   split at h
   .cases h
   .rename_i a b;have g:=(Ob _ _ _ b).1;split at h
    .grind
    split at h
    .split at h
     .cases h
     .rename_i q c;have i:=Y3 (Y4 f) _ _ _ c;grind
    .cases h
  .cases h
end
section
open Go.RowKit
def Dk (Q:Nat->Prop)(w:ai)(v:ax)(ats:List (Bs×Bs)):Prop:=∃o a,v=aj o ats.length a/\ats.length<=a/\a<=maxLen/\(o=none->a=0)/\∀i x,ats[i]? =some x->∃b c,Q b/\o=some ⟨b,c,none⟩/\w.cell? (aJ b (c+i*2))=some (jD x.1)/\w.cell? (aJ b (c+i*2+1))=some (jD x.2)/\x.1.length<=maxLen/\x.2.length<=maxLen
mutual
def uy (Q:Nat->Prop)(w:ai)(D d F:ax):Nd->Prop
 | .mk c ats b=>D=jD c/\c.length<=maxLen/\Dk Q w d ats/\∃o a,F=aj o b.length a/\b.length<=a/\a<=maxLen/\(o=none->a=0)/\vY Q w o 0 b
def vY (Q:Nat->Prop)(w:ai)(o:Option Addr)(i:Nat):List Nd->Prop
 |[]=>True
 |k::l=>(∃b a D c F,Q b/\o=some ⟨b,a,none⟩/\w.cell? (aJ b (a+i*3))=some D/\w.cell? (aJ b (a+i*3+1))=some c/\w.cell? (aJ b (a+i*3+2))=some F/\uy Q w D c F k)/\vY Q w o (i+1) l
end
theorem Dk.ats {Q:Nat->Prop}{w:ai}{ats:List (Bs×Bs)}(h:Dk Q w v ats):rU w v ats:=by
 obtain⟨o,a,b,c,d,e,f⟩:=h;refine⟨o,a,b,c,d,e,λi x g=>?_⟩;grind
mutual
theorem uy.nd {Q:Nat->Prop}{w:ai}:∀{D b F:ax} (n:Nd),uy Q w D b F n->sS w D b F n
 |_,_,_,.mk _ _ ks,h=>by
  unfold uy at h;unfold sS;obtain⟨c,d,e,o,a,f,g,i,j,k⟩:=h;exact⟨c,d,e.ats,o,a,f,g,i,j,vY.kds ks k⟩
theorem vY.kds {Q:Nat->Prop}{w:ai}:∀{o:Option Addr} {i:Nat} (l:List Nd),vY Q w o i l->nJ w o i l
 |_,_,[],_=>by unfold nJ;trivial
 |_,_,k::l,h=>by
  unfold vY at h;unfold nJ;obtain⟨⟨b,a,D,c,F, -,d,e,f,g,j⟩,m⟩:=h;exact⟨⟨b,a,D,c,F,d,e,f,g,uy.nd k j⟩,vY.kds l m⟩
end
def a0s (Q Q':Nat->Prop)(w w':ai):Prop:=∀b,Q b->b<w.heap.size->Q' b/\w'.heap[b]? =w.heap[b]?
theorem a0s.cell {Q Q':Nat->Prop}{w:ai}(h:a0s Q Q' w w'){b i:Nat}{v:ax}(a:Q b)(hc:w.cell? (aJ b i)=some v):w'.cell? (aJ b i)=some v:=by
 rw[qL (h b a (aM hc)).2];exact hc
theorem Dk.turn {Q Q':Nat->Prop}{w w':ai}{ats:List (Bs×Bs)}(h:Dk Q w v ats)(t:a0s Q Q' w w'):Dk Q' w' v ats:=by
 obtain⟨o,a,f,g,j,k,l⟩:=h;refine⟨o,a,f,g,j,k,λi x m=>?_⟩;obtain⟨b,c,d,n,e,p,q⟩:=l i x m;exact⟨b,c,(t b d (aM e)).1,n,t.cell d e,t.cell d p,q⟩
mutual
theorem uy.turn {Q Q':Nat->Prop}{w w':ai}(t:a0s Q Q' w w'):∀{D b F:ax} (n:Nd),uy Q w D b F n->uy Q' w' D b F n
 |_,_,_,.mk _ _ ks,h=>by
  unfold uy at h⊢;obtain⟨c,d,e,o,a,f,g,i,j,k⟩:=h;exact⟨c,d,e.turn t,o,a,f,g,i,j,vY.turn t ks k⟩
theorem vY.turn {Q Q':Nat->Prop}{w w':ai}(t:a0s Q Q' w w'):∀{o:Option Addr} {i:Nat} (l:List Nd),vY Q w o i l->vY Q' w' o i l
 |_,_,[],_=>by unfold vY;trivial
 |_,_,k::l,h=>by
  unfold vY at h⊢;obtain⟨⟨b,c,D,e,F,a,f,d,g,j,m⟩,n⟩:=h;exact⟨⟨b,c,D,e,F,(t b a (aM d)).1,f,t.cell a d,t.cell a g,t.cell a j,uy.turn t k m⟩,vY.turn t l n⟩
end
theorem Dk.a4B {w:ai}{B:Nat}{ats:List (Bs×Bs)}(h:w.ownsRow B 145 2 v ats.length (bZ ats))(m:∀x∈ats,x.1.length<=maxLen/\x.2.length<=maxLen):Dk (λb=>v.ownBlock=some b) w v ats:=by
 obtain⟨o,a,c,d,e,f,n⟩:=eT h;refine⟨o,a,c,d,e,f,λi x j=>?_⟩;obtain⟨D,k⟩:=zx ats i x j;obtain⟨g,p,q⟩:=eF h _ _ D;obtain⟨r,l,s⟩:=eF h _ _ k;grind
abbrev V3:=ax×ax×ax
def fU:List V3->List ax
 |[]=>[]
 |x::r=>[x.1,x.2.1,x.2.2]++fU r
theorem zb:∀a c:List V3,fU (a++c)=fU a++fU c
 |[],_=>rfl
 |x::a,c=>by simp[fU,zb a c]
theorem Ex (a:List V3)(x:V3):fU (a++[x])=fU a++[x.1,x.2.1,x.2.2]:=by rw[zb];simp[fU]
theorem Jk:∀(M:List V3) (i:Nat) (x:V3),M[i]? =some x->(fU M)[i*3]? =some x.1/\(fU M)[i*3+1]? =some x.2.1/\(fU M)[i*3+2]? =some x.2.2
 |[],i,x,h=>by simp at h
 |y::r,0,x,h=>by
  simp at h;subst h;exact⟨rfl,rfl,rfl⟩
 |y::r,i+1,x,h=>by
  have:=Jk r i x (by simpa using h);rw[show(i+1)*3=i*3+1+1+1 from by omega,show i*3+1+1+1+1=(i*3+1)+1+1+1 from rfl,show i*3+1+1+1+2=(i*3+2)+1+1+1 from rfl];simp only[fU,gH,gK,List.getElem?_cons_succ];exact this
def KR (Q:Nat->Prop)(w:ai):List V3->List Nd->Prop
 |[],[]=>True
 |x::r,n::l=>uy Q w x.1 x.2.1 x.2.2 n/\KR Q w r l
 |_,_=>False
theorem KR.len {Q:Nat->Prop}{w:ai}:∀{a:List V3} {l:List Nd},KR Q w a l->a.length=l.length
 |[],[],_=>rfl
 |_::_,_::_,h=>by simp[KR.len h.2]
 |[],_::_,h=>h.elim
 |_::_,[],h=>h.elim
theorem KR.turn {Q Q':Nat->Prop}{w w':ai}(t:a0s Q Q' w w'):∀{a:List V3} {l:List Nd},KR Q w a l->KR Q' w' a l
 |[],[],_=>trivial
 |_::_,_::_,h=>⟨uy.turn t _ h.1,KR.turn t h.2⟩
 |[],_::_,h=>h.elim
 |_::_,[],h=>h.elim
theorem KR.snoc {Q:Nat->Prop}{w:ai}:∀{a:List V3} {l:List Nd} {x:V3} {n:Nd},KR Q w a l->uy Q w x.1 x.2.1 x.2.2 n->KR Q w (a++[x]) (l++[n])
 |[],[],_,_,_,h=>⟨h,trivial⟩
 |_::_,_::_,_,_,h,k=>⟨h.1,KR.snoc h.2 k⟩
 |[],_::_,_,_,h,_=>h.elim
 |_::_,[],_,_,h,_=>h.elim
theorem KR.get {Q:Nat->Prop}{w:ai}:∀{a:List V3} {l:List Nd} {i:Nat} {n:Nd},KR Q w a l->l[i]? =some n->∃x,a[i]? =some x/\uy Q w x.1 x.2.1 x.2.2 n
 |[],[],_,_,_,h=>by simp at h
 |x::_,_::_,0,_,h,hx=>by simp at hx;subst hx;exact⟨x,rfl,h.1⟩
 |_::r,_::l,i+1,n,h,hx=>by
  obtain⟨x,b,c⟩:=KR.get (a:=r) (l:=l) (i:=i) (n:=n) h.2 (by simpa using hx);grind
 |[],_::_,_,_,h,_=>h.elim
 |_::_,[],_,_,h,_=>h.elim
theorem Y5 {Q:Nat->Prop}{w:ai}{o:Option Addr}:∀{l:List Nd} {i:Nat},(∀j k,l[j]? =some k->∃b off D a F,Q b/\o=some ⟨b,off,none⟩/\w.cell? (aJ b (off+(i+j)*3))=some D/\w.cell? (aJ b (off+(i+j)*3+1))=some a/\w.cell? (aJ b (off+(i+j)*3+2))=some F/\uy Q w D a F k)->vY Q w o i l
 |[],_,_=>by unfold vY;trivial
 |k::l,i,h=>by
  unfold vY;refine⟨h 0 k rfl,Y5 λj c d=>?_⟩;have:=h (j+1) c (by simpa using d);grind
theorem uy.make {Q:Nat->Prop}{w:ai}{B:Nat}{nm:Bs}{h e:ax}{ats:List (Bs×Bs)}{K:List V3}{i:List Nd}(n:nm.length<=maxLen)(p:Dk Q w h ats)(d:w.ownsRow B 50 3 e K.length (fU K))(l:KR Q w K i)(z:∀b,e.ownBlock=some b->Q b):uy Q w (au ⟨nm.toArray⟩) h e (.mk nm ats i):=by
 unfold uy;have c:=l.len;obtain⟨o,f,q,A,r,s,C⟩:=eT d;refine⟨rfl,n,p,o,f,by rw[<- c];exact q,aa,r,s,Y5 λj k t=>?_⟩;obtain⟨x,u,E⟩:=l.get t;obtain⟨D,v,F⟩:=Jk K j x u;obtain⟨g,y,H⟩:=eF d _ _ D;obtain⟨m,a,I⟩:=eF d _ _ v;obtain rfl:g=m:=by rw[y] at a;cases a;rfl
 obtain⟨m,a,J⟩:=eF d _ _ F;grind
structure dL (r n:Nat)(W w:ai):Prop where
 os:w.os=W.os
 tape:w.tape=W.tape
 output:w.output=W.output
 size:W.heap.size<=w.heap.size
 block:∀k,k<W.heap.size->k≠r->k≠n->w.heap[k]? =W.heap[k]?
theorem dL.trans {r n:Nat}{B:ai}(h:dL r n A B)(k:dL r n B C):dL r n A C:=
 ⟨k.os.trans h.os,k.tape.trans h.tape,k.output.trans h.output,bO h.size k.size,λi a b c=>(k.block i (fK a h.size) b c).trans (h.block i a b c)⟩
theorem dL.jr {r n:Nat}(h:eG r A B):dL r n A B:=⟨h.os,h.tape,h.output,h.size,λi a b _=>h.block i a b⟩
theorem dL.of_below {r n:Nat}(h:aD A B):dL r n A B:=⟨h.os,h.tape,h.output,h.size,λi a _ _=>h.block i a⟩
theorem dL.yA {r n:Nat}(A:ai)(i:Nat)(v:ax):dL r n A (A.setCell ⟨n,i,none⟩ v):=by
 have a:=(aW n A).setCell (p:=⟨n,i,none⟩) az v;exact⟨a.os,a.tape,a.output,a.size,λk _ _ b=>dw _ _ _ k b⟩
theorem dL.keep {r n:Nat}(h:eG r A B)(k:dL r n B C)(c:A.heap.size<=n):eG r A C:=
 ⟨k.os.trans h.os,k.tape.trans h.tape,k.output.trans h.output,bO h.size k.size,λi a b=>(k.block i (fK a h.size) b aa).trans (h.block i a b)⟩
theorem dL.grown {r n:Nat}{g:Option Nat}(h:dL r n A B)(k:B.grownBy C g)(c:∀b,g=some b->A.heap.size<=b):dL r n A C:=
 ⟨k.os.trans h.os,k.tape.trans h.tape,k.output.trans h.output,bO h.size k.size,λi a d f=>(k.block i (fK a h.size) (λe=>by have:=c i e.symm;omega)).trans (h.block i a d f)⟩
theorem eG.al {b:Nat}{B:ai}(h:eG b A B)(o:Obj):eG b A (B.alloc o):=h.trans (eG.of_below (dR B o))
def RD (R:Nat)(s:Bs)(w:ai):Prop:=w.heap[R]? =some (ak #[au ⟨s.toArray⟩] 173)
theorem RD.cell {R:Nat}{w:ai}(h:RD R s w):w.cell? (aJ R 0)=some (au ⟨s.toArray⟩):=aQ h 0 _ rfl
theorem RD.fG {R:Nat}{w:ai}(h:RD R s w):w.frozen? ⟨R,0,none⟩=false:=by
 unfold RD at h;unfold World.frozen?;rw[h];rfl
theorem RD.lt {R:Nat}{w:ai}(h:RD R s w):R<w.heap.size:=bu h
theorem RD.set {R:Nat}{t:Bs}{w:ai}(h:RD R s w):RD R t (w.setCell ⟨R,0,none⟩ (au ⟨t.toArray⟩)):=by
 unfold RD at h⊢;rw[heap_setCell_same w R 0 _ _ _ h];rfl
theorem RD.al {R:Nat}{w:ai}(h:RD R s w)(o:Obj):RD R s (w.alloc o):=by
 have:=h.lt;unfold RD at h⊢;rw[<- h];exact(dR w o).block R this
set_option maxRecDepth 20000
def a8R (a s:Bs):Bs:=if a.isPrefixOf s=true then s.drop a.length else s
theorem xE {a:Bs}(h:a.isPrefixOf s=true):a8R a s=s.drop a.length:=aR h
theorem BH {a:Bs}(h:a.isPrefixOf s=false):a8R a s=s:=aG (by rw[h];simp)
theorem Oc (s p:Bs)(w:ai):aL 198 #[au ⟨s.toArray⟩,au ⟨p.toArray⟩] w λe w'=>e=ay (aH #[au ⟨(a8R p s).toArray⟩,.bool (p.isPrefixOf s)])/\w'=w:=by
 have:=Tryz.strings_CutPrefix ⟨s.toArray⟩ ⟨p.toArray⟩ w;exact this
theorem mh (R:Nat)(s a:Bs)(W:ai)(h:RD R s W):aL 136 #[aK R,au ⟨a.toArray⟩] W λe w'=>e=ay (.bool (a.isPrefixOf s))/\RD R (a8R a s) w'/\eG R W w':=by
 have c:=h.cell;have f:=h.fG;go_enter func136,ntmps136;go_wp2_with(go_at_call 198;refine(Oc s a _).mono ?_;rintro e b ⟨rfl,rfl⟩);go_ret;exact⟨rfl,h.set,(eG.of_below (aW _ _)).setCell _⟩
theorem oJ (a:Bs)(W:ai):aL 138 #[au ⟨a.toArray⟩] W λe w'=>e=ay (.func (.func 199) #[] #[aK W.heap.size])/\w'=W.alloc (ak #[au ⟨a.toArray⟩] 9):=by
 go_enter func138,ntmps138;go_wp2;go_ret;exact⟨rfl,rfl⟩
def VS (a:Bs)(c:UInt8):Bool:=decide (Lib.indexByte a c<0)
theorem a4C (a:Bs)(c:UInt8):VS a c= !(a.any (λb=>b==c)):=by
 unfold VS
 induction a with
 |nil=>rfl
 |cons b l e=>
  have f: -1<=Lib.indexByte l c:=by
   clear e
   induction l with
   |nil=>exact Int.le_refl _
   |cons d l e=>unfold Lib.indexByte;split;decide;split;decide;omega
  rw[List.any_cons];unfold Lib.indexByte;grind
theorem ahi:VS [32,61,34,60,62,47]=λc=> !eB c:=by
 funext c;rw[a4C];simp[eB,Bool.beq_comm,Bool.or_assoc]
theorem ahj:VS [60,62,38,34]=λc=> !mB c:=by
 funext c;rw[a4C];simp[mB,Bool.beq_comm,Bool.or_assoc]
theorem Od (a:Bs)(c:UInt8)(w:ai):aL 200 #[au ⟨a.toArray⟩,.int .u8 c.toNat] w λe w'=>e=ay (ag (Lib.indexByte a c))/\w'=w:=by
 have:=Tryz.strings_IndexByte ⟨a.toArray⟩ c.toNat w;rw[show((c.toNat:Int)).toNat.toUInt8=c from by simp] at this;exact this
theorem SY (a:Bs)(c:UInt8)(B:Nat)(W:ai)(h:W.cell? (aJ B 0)=some (au ⟨a.toArray⟩)):aL 199 #[.int .u8 c.toNat,aK B] W λe w'=>e=ay (.bool (VS a c))/\w'=W:=by
 go_enter func199,ntmps199;go_wp2_with(go_at_call 200;refine(Od a c _).mono ?_;rintro e b ⟨rfl,rfl⟩);go_ret;exact⟨rfl,rfl⟩
theorem Y6 {P:UInt8->Bool}{i:Nat}(h:∀j c,j<i->s[j]? =some c->P c=true)(he:∀c,s[i]? =some c->P c=false):s.takeWhile P=s.take i/\s.dropWhile P=s.drop i:=by
 have a:∀c∈s.take i,P c=true:=λc d=>by
  obtain⟨j,g⟩:=List.mem_iff_getElem?.1 d;grind
 have b:(s.drop i).takeWhile P=[]/\(s.drop i).dropWhile P=s.drop i:=by
  cases f:s.drop i with
  |nil=>exact⟨rfl,rfl⟩
  |cons c r=>
   have:s[i]? =some c:=by have:=congrArg List.head? f;simpa using this
   have:=he c this;exact⟨List.takeWhile_cons_of_neg (by simp[this]),List.dropWhile_cons_of_neg (by simp[this])⟩
 have e:s=s.take i++s.drop i:=(jS i s).symm;constructor
 .conv=>lhs;rw[e]
  rw[List.takeWhile_append_of_pos a,b.1,List.append_nil]
 .conv=>lhs;rw[e]
  rw[List.dropWhile_append_of_pos a,b.2]
theorem ad8 (s:Bs)(i:Nat)(h:i<(⟨s.toArray⟩:aO).size):s[i]? =some ((⟨s.toArray⟩:aO)[i]):=by
 rw[<- Qj ⟨s.toArray⟩ i h];grind
theorem Y7 (s:Bs)(i:Nat):(⟨s.toArray⟩:aO).extract 0 i=⟨(s.take i).toArray⟩:=by
 have h:=Lib.extract_data ⟨s.toArray⟩ 0 i;cases a:(⟨s.toArray⟩:aO).extract 0 i with
 |mk d=>
  rw[a] at h;simp at h;rw[<- h]
theorem a8S (s:Bs)(i:Nat):(⟨s.toArray⟩:aO).extract i s.length=⟨(s.drop i).toArray⟩:=by
 have h:=Lib.extract_to_end ⟨s.toArray⟩ i;rw[iE] at h;cases a:(⟨s.toArray⟩:aO).extract i s.length with
 |mk d=>
  rw[a] at h;simp at h;rw[<- h]
theorem Ta (R:Nat)(s a:Bs)(B:Nat)(W:ai)(h:RD R s W)(z:W.heap[B]? =some (ak #[au ⟨a.toArray⟩] 9))(D:s.length<=100000):
  aL 137 #[aK R,.func (.func 199) #[] #[aK B]] W λe w'=>e=ay (au ⟨(s.takeWhile (VS a)).toArray⟩)/\RD R (s.dropWhile (VS a)) w'/\eG R W w':=by
 have c:=h.cell;have f:=h.fG;have v:=aQ z 0 _ rfl;have k:=iE s;go_enter func137,ntmps137;go_wp2_with fail
 go_loopw [5] (λy wr=>∃i:Nat,y=ag i/\i<=s.length/\(∀j c,j<i->s[j]? =some c->VS a c=true)/\wr=W) (λy _=>s.length-(intOf y).toNat)
 case atStart=>exact⟨0,rfl,bA _,λj _ h=>absurd h (Nat.not_lt_zero _),rfl⟩
 case round=>
  obtain⟨i,rfl,E,l,rfl⟩:=hrel;have r:=aF l;clear l;by_cases m:i<s.length
  .have w:(i:Int)<(s.length:Int):=aa;have b:=ad8 s i (by rw[k];exact m);have x:i<(⟨s.toArray⟩:aO).size:=by rw[k];exact m
   obtain⟨n,u⟩:∃n,(⟨s.toArray⟩:aO)[i]=n:=⟨_,rfl⟩;rw[u] at b;cases d:VS a n with
   |true=>
    have A:Hid (∀j c,j<i+1->s[j]? =some c->VS a c=true):=(λj c F g=>by
     by_cases e:j<i
     .exact r.out j c e g
     .obtain rfl:j=i:=aa;rw[b] at g;cases g;exact d:∀j c,j<i+1->s[j]? =some c->VS a c=true)
    have o:=SY a n B wr v;rw[d] at o;clear b d;go_wp2_with(go_at_call 199;refine o.mono ?_;rintro e C ⟨rfl,rfl⟩)
    go_roundw
    case rel=>exact⟨i+1,by go_num,aa,A.out,trivial⟩
    case measure=>simp[intOf];omega
   |false=>
    have p:Hid (s.takeWhile (VS a)=s.take i/\s.dropWhile (VS a)=s.drop i):=Y6 r.out (λc g=>by rw[b] at g;cases g;exact d);have o:=SY a n B wr v;rw[d] at o;clear b d;go_wp2_with(go_at_call 199;refine o.mono ?_;rintro e C ⟨rfl,rfl⟩);go_ret;refine⟨by rw[p.out.1,<- Y7];rfl,?_,(eG.of_below (aW _ _)).setCell _⟩;have q:=RD.set (t:=s.drop i) h;rw[<- a8S] at q;rw[p.out.2];exact q
  .obtain rfl:i=s.length:=aa;have p:Hid (s.takeWhile (VS a)=s.take s.length/\s.dropWhile (VS a)=s.drop s.length):=Y6 r.out (λc g=>by rw[BV az] at g;cases g);go_wp2_with fail;go_ret;refine⟨by rw[p.out.1,<- Y7];rfl,?_,(eG.of_below (aW _ _)).setCell _⟩;rw[p.out.2,List.drop_length];exact RD.set (t:=[]) h
theorem eG.grown {b:Nat}(h:eG b A B):A.grownBy B (some b):=⟨h.os,h.tape,h.output,h.size,λk c a=>h.block k c (λe=>a (by rw[e]))⟩
theorem eG.refl (b:Nat)(A:ai):eG b A A:=eG.of_below (aW _ _)
theorem eG.low {b:Nat}(h:eG b A B)(k:Below A.heap.size B C):eG b A C:=⟨k.os.trans h.os,k.tape.trans h.tape,k.output.trans h.output,bO h.size k.size,λi a c=>(k.block i a).trans (h.block i a c)⟩
theorem Bd.keep {B b R:Nat}{l:Bs}{w:ai}(h:Bd B b l w)(k:eG R w w')(i:R<B):Bd B b l w':=by
 have a:∀p,Lib.BuilderAtF 187 5 B b p (Lib.byteCells l) w->Lib.BuilderAtF 187 5 B b p (Lib.byteCells l) w':=λp ⟨g,v,d,f,c⟩=>
  ⟨g,v,by rw[k.block b (bu d) aa];exact d,f.kept k.grown (.inr λe=>by have:=(f.lt R e).1;omega),c⟩
 exact h.elim (λx=>.inl (a _ x)) (λx=>.inr (a _ x))
theorem eG.blk {b:Nat}(h:eG b A B){N:Nat}{o:Obj}(a:A.heap[N]? =some o)(hne:N≠b):B.heap[N]? =some o:=by
 rw[h.block N (bu a) hne];exact a
theorem a4D (u:Bs):M8 u=if(wl 60).isPrefixOf u=true then some (60,u.drop (wl 60).length) else if(wl 62).isPrefixOf u=true then some (62,u.drop (wl 62).length) else if(wl 38).isPrefixOf u=true then some (38,u.drop (wl 38).length) else if(wl 34).isPrefixOf u=true then some (34,u.drop (wl 34).length) else none:=rfl
def MkR (R:Nat)(u:Bs)(e:Ending)(w:ai):Prop:=(M8 u=none/\e=ay (aH #[.int .u8 0,.bool false]))\/∃c r,M8 u=some (c,r)/\e=ay (aH #[.int .u8 (UInt8.toNat c),.bool true])/\RD R r w
theorem Tc (R:Nat)(u:Bs)(W:ai)(h:RD R u W):
  aL 270 #[aK R] W λe w'=>eG R W w'/\MkR R u e w':=by
 have x:=a4D u;have p:=qY 60;have q:=qY 62;have r:=qY 38;have s:=qY 34;rw[GH] at p q r s;go_enter func270,ntmps270;go_wp2_with fail
 go_loopw [4] (λy wr=>∃i:Nat,y=ag i/\i<=4/\(∀j c,j<i->([60,62,38,34]:Bs)[j]? =some c->(wl c).isPrefixOf u=false)/\RD R u wr/\eG R W wr) (λy _=>4-(intOf y).toNat)
 case atStart=>exact⟨0,rfl,bA _,λj _ h=>absurd h (Nat.not_lt_zero _),h,eG.refl _ _⟩
 case round=>
  obtain⟨i,rfl,z,t,k,g⟩:=hrel;have o:=aF t;clear t;have v:=aF x;clear x;rcases i with _|_|_|_|_|i
  .cases a:(wl 60).isPrefixOf u with
   |true=>
    have f:=mh R u (wl 60) wr k;rw[a,xE a] at f;have l:Hid (M8 u=some (60,u.drop (wl 60).length)):=(by rw[v.out,aR a]:M8 u=some (60,u.drop (wl 60).length));clear a;go_wp2_with(first|(go_at_call 224;refine(p _).mono ?_;rintro e m ⟨rfl,rfl⟩)|(go_at_call 136;refine f.mono ?_;rintro e m ⟨rfl,b,d⟩))
    go_ret2
    exact⟨g.trans d,.inr ⟨60,_,l.out,rfl,b⟩⟩
   |false=>
    have f:=mh R u (wl 60) wr k;rw[a,BH a] at f;have l:=aF a;clear a;go_wp2_with(first|(go_at_call 224;refine(p _).mono ?_;rintro e m ⟨rfl,rfl⟩)|(go_at_call 136;refine f.mono ?_;rintro e m ⟨rfl,b,d⟩))
    go_roundw
    case rel=>exact⟨1,by go_num,aa,λj c w n=>by
     by_cases e:j<0
     .exact o.out j c aa n
     .obtain rfl:j=0:=aa;simp at n;subst n;exact l.out,b,g.trans d⟩
    case measure=>simp[intOf]
  .cases a:(wl 62).isPrefixOf u with
   |true=>
    have f:=mh R u (wl 62) wr k;rw[a,xE a] at f;have l:Hid (M8 u=some (62,u.drop (wl 62).length)):=(by rw[v.out,aG (by rw[o.out 0 60 aa rfl];simp),aR a]:M8 u=some (62,u.drop (wl 62).length));clear a;go_wp2_with(first|(go_at_call 224;refine(q _).mono ?_;rintro e m ⟨rfl,rfl⟩)|(go_at_call 136;refine f.mono ?_;rintro e m ⟨rfl,b,d⟩))
    go_ret2
    exact⟨g.trans d,.inr ⟨62,_,l.out,rfl,b⟩⟩
   |false=>
    have f:=mh R u (wl 62) wr k;rw[a,BH a] at f;have l:=aF a;clear a;go_wp2_with(first|(go_at_call 224;refine(q _).mono ?_;rintro e m ⟨rfl,rfl⟩)|(go_at_call 136;refine f.mono ?_;rintro e m ⟨rfl,b,d⟩))
    go_roundw
    case rel=>exact⟨2,by go_num,aa,λj c w n=>by
     by_cases e:j<1
     .exact o.out j c aa n
     .obtain rfl:j=1:=aa;simp at n;subst n;exact l.out,b,g.trans d⟩
    case measure=>simp[intOf]
  .cases a:(wl 38).isPrefixOf u with
   |true=>
    have f:=mh R u (wl 38) wr k;rw[a,xE a] at f;have l:Hid (M8 u=some (38,u.drop (wl 38).length)):=(by rw[v.out,aG (by rw[o.out 0 60 aa rfl];simp),aG (by rw[o.out 1 62 aa rfl];simp),aR a]:M8 u=some (38,u.drop (wl 38).length));clear a;go_wp2_with(first|(go_at_call 224;refine(r _).mono ?_;rintro e m ⟨rfl,rfl⟩)|(go_at_call 136;refine f.mono ?_;rintro e m ⟨rfl,b,d⟩))
    go_ret2
    exact⟨g.trans d,.inr ⟨38,_,l.out,rfl,b⟩⟩
   |false=>
    have f:=mh R u (wl 38) wr k;rw[a,BH a] at f;have l:=aF a;clear a;go_wp2_with(first|(go_at_call 224;refine(r _).mono ?_;rintro e m ⟨rfl,rfl⟩)|(go_at_call 136;refine f.mono ?_;rintro e m ⟨rfl,b,d⟩))
    go_roundw
    case rel=>exact⟨3,by go_num,aa,λj c w n=>by
     by_cases e:j<2
     .exact o.out j c aa n
     .obtain rfl:j=2:=aa;simp at n;subst n;exact l.out,b,g.trans d⟩
    case measure=>simp[intOf]
  .cases a:(wl 34).isPrefixOf u with
   |true=>
    have f:=mh R u (wl 34) wr k;rw[a,xE a] at f;have l:Hid (M8 u=some (34,u.drop (wl 34).length)):=(by rw[v.out,aG (by rw[o.out 0 60 aa rfl];simp),aG (by rw[o.out 1 62 aa rfl];simp),aG (by rw[o.out 2 38 aa rfl];simp),aR a]:M8 u=some (34,u.drop (wl 34).length));clear a;go_wp2_with(first|(go_at_call 224;refine(s _).mono ?_;rintro e m ⟨rfl,rfl⟩)|(go_at_call 136;refine f.mono ?_;rintro e m ⟨rfl,b,d⟩))
    go_ret2
    exact⟨g.trans d,.inr ⟨34,_,l.out,rfl,b⟩⟩
   |false=>
    have f:=mh R u (wl 34) wr k;rw[a,BH a] at f;have l:=aF a;clear a;go_wp2_with(first|(go_at_call 224;refine(s _).mono ?_;rintro e m ⟨rfl,rfl⟩)|(go_at_call 136;refine f.mono ?_;rintro e m ⟨rfl,b,d⟩))
    go_roundw
    case rel=>exact⟨4,by go_num,aa,λj c w n=>by
     by_cases e:j<3
     .exact o.out j c aa n
     .obtain rfl:j=3:=aa;simp at n;subst n;exact l.out,b,g.trans d⟩
    case measure=>simp[intOf]
  .have l:Hid (M8 u=none):=(by rw[v.out,aG (by rw[o.out 0 60 aa rfl];simp),aG (by rw[o.out 1 62 aa rfl];simp),aG (by rw[o.out 2 38 aa rfl];simp),aG (by rw[o.out 3 34 aa rfl];simp)]:M8 u=none);go_wp2_with fail
   go_ret2
   exact⟨g,.inl ⟨l.out,rfl⟩⟩
  .omega
def left (R:Nat)(w:ai):Nat:=match w.cell? (aJ R 0) with
 |some (au s)=>s.size
 |_=>0
theorem RD.left {R:Nat}{w:ai}(h:RD R s w):left R w=s.length:=by
 unfold Go.Proofs.YtbkjmamcnflncaaGreatDoor.left;rw[h.cell];exact iE s
theorem a8T {f:Nat}(h:[34].isPrefixOf (Ow s)=true):BF (f+1) s=some (tkM s,(Ow s).drop 1):=by rw[BF,aR h]
theorem ad9 {f:Nat}(h:[34].isPrefixOf (Ow s)=false)(a:M8 (Ow s)=none):BF (f+1) s=none:=by rw[BF,aG (by rw[h];simp),a]
theorem ada {f:Nat}{c:UInt8}(h:[34].isPrefixOf (Ow s)=false)(a:M8 (Ow s)=some (c,r)):BF (f+1) s=Ji (tkM s++[c]) (BF f r):=by rw[BF,aG (by rw[h];simp),a]
theorem RD.low {R B:Nat}{w:ai}(h:RD R s w)(a:Below B w w')(b:R<B):RD R s w':=by
 unfold RD at h⊢;rw[<- h];exact a.block R b
theorem rD (R:Nat)(s a:Bs)(W:ai)(h:RD R s W)(hp:a.isPrefixOf s=true):aL 136 #[aK R,au ⟨a.toArray⟩] W λe w'=>e=ay (.bool true)/\RD R (s.drop a.length) w'/\eG R W w':=by
 have:=mh R s a W h;rw[hp,xE hp] at this;exact this
theorem nO (R:Nat)(s a:Bs)(W:ai)(h:RD R s W)(hp:a.isPrefixOf s=false):aL 136 #[aK R,au ⟨a.toArray⟩] W λe w'=>e=ay (.bool false)/\RD R s w'/\eG R W w':=by
 have:=mh R s a W h;rw[hp,BH hp] at this;exact this
theorem a0t (R:Nat)(s:Bs)(B:Nat)(W:ai)(h:RD R s W)(a:W.heap[B]? =some (ak #[au ⟨([60,62,38,34]:Bs).toArray⟩] 9))(b:s.length<=100000):
  aL 137 #[aK R,.func (.func 199) #[] #[aK B]] W λe w'=>e=ay (au ⟨(tkM s).toArray⟩)/\RD R (Ow s) w'/\eG R W w':=by
 have:=Ta R s _ B W h a b;rw[ahj] at this;exact this
theorem uz (R:Nat)(s:Bs)(B:Nat)(W:ai)(h:RD R s W)(a:W.heap[B]? =some (ak #[au ⟨([32,61,34,60,62,47]:Bs).toArray⟩] 9))(b:s.length<=100000):
  aL 137 #[aK R,.func (.func 199) #[] #[aK B]] W λe w'=>e=ay (au ⟨(mg s).toArray⟩)/\RD R (yZ s) w'/\eG R W w':=by
 have:=Ta R s _ B W h a b;rw[ahi] at this;exact this
def VlR (R:Nat)(o:Option (Bs×Bs))(e:Ending)(w:ai):Prop:=(o=none/\e=ay (aH #[au ⟨#[]⟩,.bool false]))\/∃v r:Bs,o=some (v,r)/\e=ay (aH #[au ⟨v.toArray⟩,.bool true])/\RD R r w
theorem Mc (R:Nat)(s:Bs)(W:ai)(h:RD R s W)(hl:s.length<=10000):
  aL 201 #[aK R] W λe w'=>eG R W w'/\VlR R (BF (s.length+1) s) e w':=by
 have i:=h.lt;have S:=dR W (ak #[.pointer none,aj none 0 0] 187);have y:=Bd.fresh W.heap.size W az;go_enter func201,ntmps201;go_wp2_with fail;obtain⟨V,T⟩:∃V,W.alloc (ak #[.pointer none,aj none 0 0] 187)=V:=⟨_,rfl⟩;have z:=h.al (ak #[.pointer none,aj none 0 0] 187);rw[T] at S y z⊢;clear T
 go_loopw [] (λwr=>∃(a rest:Bs) (f:Nat),rest.length<f/\a.length+rest.length<=s.length/\BF (s.length+1) s=Ji a (BF f rest)/\RD R rest wr/\Bd W.heap.size W.heap.size a wr/\eG R W wr) (λwr=>left R wr)
 case atStart=>exact⟨[],s,s.length+1,aa,aI,(a4u _).symm,z,y,eG.of_below S⟩
 case round=>
  obtain⟨a,rest,f,hf,a5,A,o,B,J⟩:=hrel;have K:=aF A;clear A;obtain⟨f,rfl⟩:∃g,f=g+1:=⟨f-1,aa⟩;have a6:=XY rest;have L:=oJ [60,62,38,34] wr;have BJ:=o.al (ak #[au ⟨([60,62,38,34]:Bs).toArray⟩] 9);have U:=dY wr #[au ⟨([60,62,38,34]:Bs).toArray⟩] 9;have M:=a0t R rest wr.heap.size _ BJ U aa;have N:=J.trans (eG.of_below (dR wr (ak #[au ⟨([60,62,38,34]:Bs).toArray⟩] 9)));have p:=B.al (ak #[au ⟨([60,62,38,34]:Bs).toArray⟩] 9);have HL:Hid (left R wr=rest.length):=o.left;clear o B U BJ;cases w:[34].isPrefixOf (Ow rest) with
  |true=>
   have C:Hid (BF (s.length+1) s=some (a++tkM rest,(Ow rest).drop 1)):=(by rw[K.out,a8T w];rfl:BF (s.length+1) s=some (a++tkM rest,(Ow rest).drop 1));go_wp2_with(first|(go_at_call 138;refine L.mono ?_;rintro e X ⟨rfl,rfl⟩)|(go_at_call 137;refine M.mono ?_;rintro e Y ⟨rfl,rO,m⟩;have K2:=N.trans m;have j:=p.keep m i)|(go_at_call 154;refine(gD W.heap.size W.heap.size a (tkM rest) _ j aa K2.size).mono ?_;rintro e Z ⟨rfl,l,b⟩;have D:=rO.low b.low i;have E:=K2.low b.low)|(go_at_call 136;refine(rD R _ [34] _ D w).mono ?_;rintro e w4 ⟨rfl,k,t⟩;have u:=l.keep t i;have x:=E.trans t)|(go_at_call 94;refine(Tryz.Builder_String_any_k W.heap.size _ _ _ u x.size).mono ?_;rintro e w5 ⟨rfl, -,F, -⟩))
   go_ret2
   exact⟨x.low F,.inr ⟨_,_,C.out,rfl,k.low F i⟩⟩
  |false=>
   cases n:M8 (Ow rest) with
   |none=>
    have C:Hid (BF (s.length+1) s=none):=(by rw[K.out,ad9 w n];rfl:BF (s.length+1) s=none);have O:∀W,RD R (Ow rest) W->aL 270 #[aK R] W λe w'=>eG R W w'/\e=ay (aH #[.int .u8 0,.bool false]):=λW h=>(Tc R _ W h).mono (λe w' ⟨H,d⟩=>⟨H,by
     rcases d with d|⟨c,r,d, -⟩
     .exact d.2
     .rw[n] at d;cases d⟩)
    clear n;go_wp2_with(first|(go_at_call 138;refine L.mono ?_;rintro e X ⟨rfl,rfl⟩)|(go_at_call 137;refine M.mono ?_;rintro e Y ⟨rfl,rO,m⟩;have K2:=N.trans m;have j:=p.keep m i)|(go_at_call 154;refine(gD W.heap.size W.heap.size a (tkM rest) _ j aa K2.size).mono ?_;rintro e Z ⟨rfl,l,b⟩;have D:=rO.low b.low i;have E:=K2.low b.low)|(go_at_call 136;refine(nO R _ [34] _ D w).mono ?_;rintro e w4 ⟨rfl,k,t⟩;have x:=E.trans t)|(go_at_call 270;refine(O _ k).mono ?_;rintro e w5 ⟨I,rfl⟩))
    go_ret2
    exact⟨x.trans I,.inl ⟨C.out,rfl⟩⟩
   |some q=>
    obtain⟨c,r⟩:=q;have a4:=XZ n;have C:Hid (BF (s.length+1) s=Ji (a++tkM rest++[c]) (BF f r)):=(by rw[K.out,ada w n,a4v,lF]:BF (s.length+1) s=Ji (a++tkM rest++[c]) (BF f r));have O:∀W,RD R (Ow rest) W->aL 270 #[aK R] W λe w'=>eG R W w'/\e=ay (aH #[.int .u8 (UInt8.toNat c),.bool true])/\RD R r w':=λW h=>(Tc R _ W h).mono (λe w' ⟨H,d⟩=>⟨H,by
     rcases d with d|⟨c',r',d,h3,h4⟩
     .rw[n] at d;cases d.1
     .rw[n] at d;cases d;exact⟨h3,h4⟩⟩)
    clear n;go_wp2_with(first|(go_at_call 138;refine L.mono ?_;rintro e X ⟨rfl,rfl⟩)|(go_at_call 137;refine M.mono ?_;rintro e Y ⟨rfl,rO,m⟩;have K2:=N.trans m;have j:=p.keep m i)|(go_at_call 154;refine(gD W.heap.size W.heap.size a (tkM rest) _ j aa K2.size).mono ?_;rintro e Z ⟨rfl,l,b⟩;have D:=rO.low b.low i;have E:=K2.low b.low)|(go_at_call 136;refine(nO R _ [34] _ D w).mono ?_;rintro e w4 ⟨rfl,k,t⟩;have u:=l.keep t i;have x:=E.trans t)|(go_at_call 270;refine(O _ k).mono ?_;rintro e w5 ⟨I,rfl,Te⟩;have P:=u.keep I i;have K5:=x.trans I)|(go_at_call 92;refine(yO W.heap.size W.heap.size _ c _ P bq K5.size).mono ?_;rintro e w6 ⟨rfl,Q,v⟩))
    go_roundw
    case rel=>exact⟨_,_,f,aa,bq,C.out,Te.low v.low i,Q,K5.low v.low⟩
    case measure=>have H:=HL.out;have d:=(Te.low v.low i).left;omega
theorem NB.fG {N:Nat}{a:ax}{w:ai}(h:NB N D a F w)(i:Nat):w.frozen? ⟨N,i,none⟩=false:=by
 unfold NB at h;unfold World.frozen?;rw[h];simp
theorem NB.lt {N:Nat}{a:ax}{w:ai}(h:NB N D a F w):N<w.heap.size:=bu h
theorem NB.keep {N R:Nat}{a:ax}{w:ai}(h:NB N D a F w)(k:eG R w w')(hne:R≠N):NB N D a F w':=k.blk h (λe=>hne e.symm)
theorem NB.al {N:Nat}{a:ax}{w:ai}(h:NB N D a F w)(o:Obj):NB N D a F (w.alloc o):=by
 have:=h.lt;unfold NB at h⊢;rw[<- h];exact(dR w o).block N this
theorem NB.grown {N:Nat}{g:Option Nat}{a:ax}{w:ai}(h:NB N D a F w)(k:w.grownBy w' g)(hne:some N≠g):NB N D a F w':=by
 have:=h.lt;unfold NB at h⊢;rw[<- h];exact k.block N this hne
theorem NB.set1 {N:Nat}{a:ax}{w:ai}(h:NB N D a F w)(v:ax):NB N D v F (w.setCell ⟨N,1,none⟩ v):=by
 unfold NB at h⊢;rw[heap_setCell_same w N 1 _ _ _ h];rfl
theorem NB.set2 {N:Nat}{a:ax}{w:ai}(h:NB N D a F w)(v:ax):NB N D a v (w.setCell ⟨N,2,none⟩ v):=by
 unfold NB at h⊢;rw[heap_setCell_same w N 2 _ _ _ h];rfl
theorem RD.grown {R:Nat}{g:Option Nat}{w:ai}(h:RD R s w)(k:w.grownBy w' g)(hne:some R≠g):RD R s w':=by
 have:=h.lt;unfold RD at h⊢;rw[<- h];exact k.block R this hne
theorem RD.yA {R N:Nat}{w:ai}(h:RD R s w)(i:Nat)(v:ax)(hne:R≠N):RD R s (w.setCell ⟨N,i,none⟩ v):=by
 unfold RD at h⊢;rw[<- h];exact dw w _ v R hne
theorem eG.set (N:Nat)(i:Nat)(w:ai)(v:ax):eG N w (w.setCell ⟨N,i,none⟩ v):=by
 have a:=(aW N w).setCell (p:=⟨N,i,none⟩) az v;exact⟨a.os,a.tape,a.output,a.size,λk _ b=>dw _ _ _ k b⟩
theorem fF {R B k n:Nat}{e:TypeId}{a:List ax}{w:ai}(h:w.ownsRow B e k v n a)(b:eG R w w')(c:R<B):w'.ownsRow B e k v n a:=
 h.kept b.grown (.inr λe=>by have:=(h.lt R e).1;omega)
theorem a0u (w:ai)(a b:ax)(t:TypeId):∀j u,[a,b][j]? =some u->(w.alloc (.cells #[a,b] t)).cell? ((⟨w.heap.size,0,none⟩:Addr).add j)=some u:=by
 intro j u h;have e:(⟨w.heap.size,0,none⟩:Addr).add j=⟨w.heap.size,j,none⟩:=by unfold Addr.add;split<;>simp_all
 rw[e];exact kJ w #[a,b] t j u (by simpa using h)
theorem vz {w:ai}{B:Nat}{e:TypeId}{k:Nat}{n:Nat}{b:List ax}(h:w.ownsRow B e k v n b):∃o a,v=.slice o n a:=by
 obtain⟨o,a,c, -⟩:=eT h;grind
theorem adb {f:Nat}(h:[32].isPrefixOf s=false):za (f+1) s=some ([],s):=by rw[za,aG (by rw[h];simp)]
theorem a8U {f:Nat}(h:[32].isPrefixOf s=true)(a:sQ (s.drop 1)=none):za (f+1) s=none:=by rw[za,aR h,a]
theorem ade {f:Nat}{a:Bs×Bs}(h:[32].isPrefixOf s=true)(b:sQ (s.drop 1)=some (a,r)):za (f+1) s=Dj [a] (za f r):=by rw[za,aR h,b]
theorem a4F (h:mg r=[]):sQ r=none:=by rw[sQ,aR h]
theorem adf (h:[61,34].isPrefixOf (yZ r)=false):sQ r=none:=by
 rw[sQ];grind
theorem adg (a:mg r≠[])(h:[61,34].isPrefixOf (yZ r)=true)(b:BF (((yZ r).drop 2).length+1) ((yZ r).drop 2)=none):sQ r=none:=by rw[sQ,aG a,aR h,b]
theorem a8V {v z:Bs}(a:mg r≠[])(h:[61,34].isPrefixOf (yZ r)=true)(b:BF (((yZ r).drop 2).length+1) ((yZ r).drop 2)=some (v,z)):sQ r=some ((mg r,v),z):=by rw[sQ,aG a,aR h,b]
def AtR (R N B:Nat)(D F:ax)(o:Option (List (Bs×Bs)×Bs))(e:Ending)(w:ai):Prop:=∃a,NB N D a F w/\((o=none/\e=.returned (.bool false))\/∃(ats:List (Bs×Bs)) (r:Bs),o=some (ats,r)/\e=.returned (.bool true)/\RD R r w/\w.ownsRow B 145 2 a ats.length (bZ ats))
theorem a4G (R N:Nat)(s:Bs)(D F:ax)(W:ai)(h:RD R s W)(hN:NB N D (.slice none 0 0) F W)(hne:R≠N)(hl:s.length<=10000):
  aL 139 #[aK R,aK N] W λe w'=>dL R N W w'/\AtR R N W.heap.size D F (za (s.length+1) s) e w':=by
 have o:=h.lt;have Y:=hN.lt;obtain⟨i0,hi,a7,a8,a9⟩:=info_parts AA;go_enter func139,ntmps139;go_wp2_with fail
 go_loopw [] (λwr=>∃(d:List (Bs×Bs)) (rest:Bs) (f:Nat) (L:ax),rest.length<f/\rest.length+4*d.length<=s.length/\za (s.length+1) s=Dj d (za f rest)/\RD R rest wr/\NB N D L F wr/\wr.ownsRow W.heap.size 145 2 L d.length (bZ d)/\dL R N W wr) (λwr=>left R wr)
 case atStart=>exact⟨[],s,s.length+1,.slice none 0 0,aa,aI,(a4w _).symm,h,hN,gp _ _ _ _,dL.of_below (aW _ _)⟩
 case round=>
  obtain⟨d,rest,f,L,hf,b2,Z,M,w,j,y⟩:=hrel;have HQ:=aF Z;clear Z;obtain⟨f,rfl⟩:∃g,f=g+1:=⟨f-1,aa⟩;have HL:Hid (left R wr=rest.length):=M.left;cases O:[32].isPrefixOf rest with
  |false=>
   have H:Hid (za (s.length+1) s=some (d,rest)):=(by rw[HQ.out,adb O];simp[Dj]:za (s.length+1) s=some (d,rest));go_wp2_with(go_at_call 136;refine(nO R _ [32] _ M O).mono ?_;rintro e t ⟨rfl,BJ,k⟩);go_ret;exact⟨y.trans (dL.jr k),L,w.keep k hne,.inr ⟨d,rest,H.out,rfl,BJ,fF j k o⟩⟩
  |true=>
   have a4:=rC O;have A:=rD R rest [32] wr M O;obtain⟨r,hr⟩:∃r,rest.drop 1=r:=⟨_,rfl⟩;have b3:1+r.length=rest.length:=by rw[<- hr];exact a4
   rw[show rest.drop ([32]:Bs).length=r from hr] at A;have HB:Hid (sQ r=none->za (s.length+1) s=none):=(λI=>by rw[HQ.out,a8U O (by rw[hr];exact I)];rfl:sQ r=none->za (s.length+1) s=none);have HO:Hid (∀a z,sQ r=some (a,z)->za (s.length+1) s=Dj (d++[a]) (za f z)):=(λa z I=>by rw[HQ.out,ade O (by rw[hr];exact I),a4x]:∀a z,sQ r=some (a,z)->za (s.length+1) s=Dj (d++[a]) (za f z));clear a4 hr O;have b4:=FK r;by_cases he:mg r=[]
   .have H:Hid (za (s.length+1) s=none):=HB.out (a4F he);go_wp2_with(first|(go_at_call 137;refine(uz R r _ _ rO P aa).mono ?_;rintro e w3 ⟨rfl,J,m⟩;have l:=i.keep m hne;have Q:=fF B m o;have S:=K2.trans (dL.jr m);clear rO i B;rw[he])|(go_at_call 138;refine(oJ [32,61,34,60,62,47] _).mono ?_;rintro e w2 ⟨rfl,rfl⟩)|(go_at_call 136;refine A.mono ?_;rintro e t ⟨rfl,BJ,k⟩;have P:=dY t #[.string ⟨([32,61,34,60,62,47]:Bs).toArray⟩] 9;have rO:=BJ.al (.cells #[.string ⟨([32,61,34,60,62,47]:Bs).toArray⟩] 9);have i:=(w.keep k hne).al (.cells #[.string ⟨([32,61,34,60,62,47]:Bs).toArray⟩] 9);have B:=iF (fF j k o) (.cells #[.string ⟨([32,61,34,60,62,47]:Bs).toArray⟩] 9);have K2:=(y.trans (dL.jr k)).trans (dL.of_below (dR t (.cells #[.string ⟨([32,61,34,60,62,47]:Bs).toArray⟩] 9)));clear BJ));go_ret;exact⟨S,L,l,.inl ⟨H.out,rfl⟩⟩
   .have b5:(mg r).isEmpty=false:=by
     cases ht:mg r with
     |nil=>exact absurd ht he
     |cons _ _=>rfl
    cases T:[61,34].isPrefixOf (yZ r) with
    |false=>
     have H:Hid (za (s.length+1) s=none):=HB.out (adf T);go_wp2_with(first|(have U:=J;go_at_call 136;refine(nO R (yZ r) [61,34] _ U T).mono ?_;rintro e w4 ⟨rfl,C,E⟩;have p:=l.keep E hne;have K4:=S.trans (dL.jr E))|(go_at_call 137;refine(uz R r _ _ rO P aa).mono ?_;rintro e w3 ⟨rfl,J,m⟩;have l:=i.keep m hne;have Q:=fF B m o;have S:=K2.trans (dL.jr m);clear rO i B)|(go_at_call 138;refine(oJ [32,61,34,60,62,47] _).mono ?_;rintro e w2 ⟨rfl,rfl⟩)|(go_at_call 136;refine A.mono ?_;rintro e t ⟨rfl,BJ,k⟩;have P:=dY t #[.string ⟨([32,61,34,60,62,47]:Bs).toArray⟩] 9;have rO:=BJ.al (.cells #[.string ⟨([32,61,34,60,62,47]:Bs).toArray⟩] 9);have i:=(w.keep k hne).al (.cells #[.string ⟨([32,61,34,60,62,47]:Bs).toArray⟩] 9);have B:=iF (fF j k o) (.cells #[.string ⟨([32,61,34,60,62,47]:Bs).toArray⟩] 9);have K2:=(y.trans (dL.jr k)).trans (dL.of_below (dR t (.cells #[.string ⟨([32,61,34,60,62,47]:Bs).toArray⟩] 9)));clear BJ));go_ret;exact⟨K4,L,p,.inl ⟨H.out,rfl⟩⟩
    |true=>
     have a5:=rC T;have V:=λW h=>rD R (yZ r) [61,34] W h T;obtain⟨x,hx⟩:∃x,(yZ r).drop 2=x:=⟨_,rfl⟩;have b6:2+x.length=(yZ r).length:=by rw[<- hx];exact a5
     rw[show(yZ r).drop ([61,34]:Bs).length=x from hx] at V;have HV:Hid (BF (x.length+1) x=none->sQ r=none):=(λh=>adg he T (by rw[hx];exact h):BF (x.length+1) x=none->sQ r=none);have HW:Hid (∀v z,BF (x.length+1) x=some (v,z)->sQ r=some ((mg r,v),z)):=(λv z h=>a8V he T (by rw[hx];exact h):∀v z,BF (x.length+1) x=some (v,z)->sQ r=some ((mg r,v),z));clear a5 hx T;cases K:BF (x.length+1) x with
     |none=>
      have H:Hid (za (s.length+1) s=none):=HB.out (HV.out K);have VL:∀W,RD R x W->aL 201 #[aK R] W λe w'=>eG R W w'/\e=.returned (.tuple #[.string ⟨#[]⟩,.bool false]):=λW h=>(Mc R _ W h aa).mono (λe w' ⟨I,n⟩=>⟨I,by
       rcases n with n|⟨c,r,n, -⟩
       .exact n.2
       .rw[K] at n;cases n⟩)
      clear K;go_wp2_with(first|(go_at_call 201;refine(VL _ C).mono ?_;rintro e w5 ⟨X,rfl⟩;have Oe:=p.keep X hne;have K5:=K4.trans (dL.jr X))|(have U:=J;go_at_call 136;refine(V _ U).mono ?_;rintro e w4 ⟨rfl,C,E⟩;have p:=l.keep E hne;have Qw:=fF Q E o;have K4:=S.trans (dL.jr E);clear U J l Q)|(go_at_call 137;refine(uz R r _ _ rO P aa).mono ?_;rintro e w3 ⟨rfl,J,m⟩;have l:=i.keep m hne;have Q:=fF B m o;have S:=K2.trans (dL.jr m);clear rO i B)|(go_at_call 138;refine(oJ [32,61,34,60,62,47] _).mono ?_;rintro e w2 ⟨rfl,rfl⟩)|(go_at_call 136;refine A.mono ?_;rintro e t ⟨rfl,BJ,k⟩;have P:=dY t #[.string ⟨([32,61,34,60,62,47]:Bs).toArray⟩] 9;have rO:=BJ.al (.cells #[.string ⟨([32,61,34,60,62,47]:Bs).toArray⟩] 9);have i:=(w.keep k hne).al (.cells #[.string ⟨([32,61,34,60,62,47]:Bs).toArray⟩] 9);have B:=iF (fF j k o) (.cells #[.string ⟨([32,61,34,60,62,47]:Bs).toArray⟩] 9);have K2:=(y.trans (dL.jr k)).trans (dL.of_below (dR t (.cells #[.string ⟨([32,61,34,60,62,47]:Bs).toArray⟩] 9)));clear BJ));go_ret;exact⟨K5,L,Oe,.inl ⟨H.out,rfl⟩⟩
     |some q=>
      obtain⟨v,z⟩:=q;have b7:v.length+z.length+1<=x.length:=Oa _ _ _ K;have H:Hid (za (s.length+1) s=Dj (d++[(mg r,v)]) (za f z)):=HO.out _ _ (HW.out _ _ K);have VL:∀W,RD R x W->aL 201 #[aK R] W λe w'=>eG R W w'/\e=.returned (.tuple #[.string ⟨v.toArray⟩,.bool true])/\RD R z w':=λW h=>(Mc R _ W h aa).mono (λe w' ⟨I,n⟩=>⟨I,by
       rcases n with n|⟨v',z',n,h3,h4⟩
       .rw[K] at n;cases n.1
       .rw[K] at n;cases n;exact⟨h3,h4⟩⟩)
      clear K;obtain⟨oA,b8,rfl⟩:=vz j;go_upto_region 8 with(first|(go_at_call 201;refine(VL _ C).mono ?_;rintro e w5 ⟨X,rfl,Te⟩;have Oe:=p.keep X hne;have vN:=fF Qw X o;have K5:=K4.trans (dL.jr X);have n1:=Oe.c1;clear C p Qw)|(have U:=J;go_at_call 136;refine(V _ U).mono ?_;rintro e w4 ⟨rfl,C,E⟩;have p:=l.keep E hne;have Qw:=fF Q E o;have K4:=S.trans (dL.jr E);clear U J l Q)|(go_at_call 137;refine(uz R r _ _ rO P aa).mono ?_;rintro e w3 ⟨rfl,J,m⟩;have l:=i.keep m hne;have Q:=fF B m o;have S:=K2.trans (dL.jr m);clear rO i B)|(go_at_call 138;refine(oJ [32,61,34,60,62,47] _).mono ?_;rintro e w2 ⟨rfl,rfl⟩)|(go_at_call 136;refine A.mono ?_;rintro e t ⟨rfl,BJ,k⟩;have P:=dY t #[.string ⟨([32,61,34,60,62,47]:Bs).toArray⟩] 9;have rO:=BJ.al (.cells #[.string ⟨([32,61,34,60,62,47]:Bs).toArray⟩] 9);have i:=(w.keep k hne).al (.cells #[.string ⟨([32,61,34,60,62,47]:Bs).toArray⟩] 9);have B:=iF (fF j k o) (.cells #[.string ⟨([32,61,34,60,62,47]:Bs).toArray⟩] 9);have K2:=(y.trans (dL.jr k)).trans (dL.of_below (dR t (.cells #[.string ⟨([32,61,34,60,62,47]:Bs).toArray⟩] 9)));clear BJ));go_wp2_with(at_builtin;refine wpList_append_own _ rfl _ _ 47 rfl W.heap.size 145 i0 (.agg #[.string ⟨#[]⟩,.string ⟨#[]⟩]) 2 32 underlying47 hi a7 a8 a9 rfl aC _ _ _ rfl (iF vN _) ⟨w5.heap.size,0,none⟩ 1 1 [.string ⟨(mg r).toArray⟩,.string ⟨v.toArray⟩] rfl rfl (a0u w5 _ _ _) (λu hu=>by simp at hu;rcases hu with rfl|rfl<;>rfl) (by rw[dD];omega) aa (by have:=K5.size;simp;omega) ?_;intro v7 w7 kN lJ _;have Ox:=(Oe.al _).grown lJ (own_ne vN Y);have m1:=Ox.c1;have m2:=Ox.fG 1;obtain⟨o7,yt,rfl⟩:=vz kN);have b0:=(Te.al (.cells #[.string ⟨(mg r).toArray⟩,.string ⟨v.toArray⟩] 145)).grown lJ (own_ne vN o);have K7:=(K5.trans (dL.of_below (dR w5 (.cells #[.string ⟨(mg r).toArray⟩,.string ⟨v.toArray⟩] 145)))).grown lJ (λb hb=>(vN.lt b hb).1)
      have b1:=fF kN (eG.set N 1 w7 (.slice o7 (d.length+1) yt)) Y;have a6:=b0.yA (N:=N) 1 (.slice o7 (d.length+1) yt) hne
      go_roundw
      case rel=>exact⟨d++[(mg r,v)],z,f,.slice o7 (d.length+1) yt,aa,bq,H.out,a6,Ox.set1 _,by rw[E9,dO];exact b1,K7.trans (dL.yA _ _ _)⟩
      case measure=>have I:=HL.out;have n:=a6.left;omega
end
section
open Go.RowKit
def ElR (R B:Nat)(o:Option (Nd×Bs))(e:Ending)(w:ai):Prop:=∃(a:aO) (c:Option Addr) (d f:Nat) (g:Option Addr) (h i:Nat),(o=none/\e=ay (aH #[.agg #[au a,aj c d f,aj g h i],.bool false]))\/∃(n:Nd) (r:Bs),o=some (n,r)/\e=ay (aH #[.agg #[au a,aj c d f,aj g h i],.bool true])/\RD R r w/\uy (λb=>B<=b) w (au a) (aj c d f) (aj g h i) n
def El (R f:Nat):Prop:=∀(s:Bs) (W:ai),s.length<f->s.length<=10000->RD R s W->
 aL 82 #[aK R] W λe w'=>eG R W w'/\ElR R W.heap.size (pG f s) e w'
theorem Og (s p:Bs)(w:ai):aL 202 #[au ⟨s.toArray⟩,au ⟨p.toArray⟩] w λe w'=>e=ay (.bool (p.isPrefixOf s))/\w'=w:=by
 have:=Tryz.strings_HasPrefix ⟨s.toArray⟩ ⟨p.toArray⟩ w;exact this
theorem jO (s p:Bs)(b:Bool)(w:ai)(h:p.isPrefixOf s=b):aL 202 #[au ⟨s.toArray⟩,au ⟨p.toArray⟩] w λe w'=>e=ay (.bool b)/\w'=w:=by
 rw[<- h];exact Og s p w
theorem Y8 {f:Nat}(h:¬([60].isPrefixOf s=true/\[60,47].isPrefixOf s=false)):Ab el (f+1) s=some ([],s):=by rw[Ab,aG h]
theorem a8Y {f:Nat}(h:[60].isPrefixOf s=true/\[60,47].isPrefixOf s=false)(a:el s=none):Ab el (f+1) s=none:=by rw[Ab,aR h,a]
theorem adh {f:Nat}{k:Nd}(h:[60].isPrefixOf s=true/\[60,47].isPrefixOf s=false)(a:el s=some (k,r)):Ab el (f+1) s=zS [k] (Ab el f r):=by rw[Ab,aR h,a]
theorem nodeInfo:(prog.info? 50).map (λi=>(i.zero,i.size,i.bytes))=some (some (.agg #[au ⟨#[]⟩,aj none 0 0,aj none 0 0]),3,64):=aA
theorem uA {w:ai}{B k n g a:Nat}{e:TypeId}{d:List ax}(h:w.ownsRow B e k (aj (some ⟨g,0,none⟩) n a) n d)(j:Nat)(v:ax):(w.setCell ⟨g,j,none⟩ v).ownsRow B e k (aj (some ⟨g,0,none⟩) n a) n (d.set j v):=by
 obtain⟨i,c⟩:=h;refine⟨by rw[List.length_set];exact i,?_⟩;rcases c with⟨c,_⟩|⟨t,f,b,l,m,o,p,q,r,s⟩
 .cases c
 .cases l;refine .inr ⟨g,a,b.setIfInBounds j v,rfl,m,heap_setCell_same w g j b e v o,p,q,by simpa using r,?_⟩;rw[<- s,Array.toList_setIfInBounds,List.take_set]
theorem a4K {w:ai}{B k n g a:Nat}{e:TypeId}{d:List ax}(h:w.ownsRow B e k (aj (some ⟨g,0,none⟩) n a) n d)(j:Nat):w.frozen? ⟨g,j,none⟩=false:=by
 rcases h.2 with⟨f,_⟩|⟨m,c,b,i,o,l, -⟩
 .cases f
 .cases i;exact frozen_of_row w g j b e l
theorem Jl {w:ai}{B k n g a:Nat}{e:TypeId}{b:List ax}(h:w.ownsRow B e k (aj (some ⟨g,0,none⟩) n a) n b){j:Nat}{u:ax}(c:b[j]? =some u):w.cell? (aJ g j)=some u:=by
 obtain⟨i,d,f⟩:=eF h j u c;cases d;exact f
theorem adi (K:List V3)(a b c:ax):(fU K++[a,b,c])[K.length*3]? =some a/\(fU K++[a,b,c])[K.length*3+1]? =some b/\(fU K++[a,b,c])[K.length*3+2]? =some c:=by
 have h:(fU K).length=K.length*3:=by
  induction K with
  |nil=>rfl
  |cons x r d=>simp[fU,d];omega
 grind
theorem Jm:∀K:List V3,(fU K).length=K.length*3
 |[]=>rfl
 |x::r=>by simp[fU,Jm r];omega
def KdR (R N B:Nat)(D g:ax)(o:Option (List Nd×Bs))(e:Ending)(w:ai):Prop:=∃(a:Option Addr) (c d:Nat),NB N D g (aj a c d) w/\((o=none/\e=ay (.bool false))\/∃(f:List Nd) (r:Bs) (K:List V3),o=some (f,r)/\e=ay (.bool true)/\RD R r w/\w.ownsRow B 50 3 (aj a c d) K.length (fU K)/\KR (λb=>B<=b) w K f)
theorem ahm (K:List V3)(x y z a b c:ax):(((fU K++[x,y,z]).set (K.length*3) a).set (K.length*3+1) b).set (K.length*3+2) c=fU K++[a,b,c]:=by
 have h:=Jm K;rw[List.set_append_right _ _ aa,List.set_append_right _ _ aa,List.set_append_right _ _ aa,h,Nat.sub_self,Nat.add_sub_cancel_left,Nat.add_sub_cancel_left];rfl
theorem dL.a0v {r n g:Nat}(h:dL r n A B)(i:Nat)(v:ax)(a:A.heap.size<=g):dL r n A (B.setCell ⟨g,i,none⟩ v):=
 h.grown (eG.set g i B v).grown (λb c=>by cases c;exact a)
def VT (N g q d n:Nat)(a b c:ax)(w V:ai):Prop:=V=(((w.setCell ⟨g,q,none⟩ a).setCell ⟨g,q+1,none⟩ b).setCell ⟨g,q+2,none⟩ c).setCell ⟨N,2,none⟩ (aj (some ⟨g,0,none⟩) n d)\/V=(((w.setCell ⟨N,2,none⟩ (aj (some ⟨g,0,none⟩) n d)).setCell ⟨g,q,none⟩ a).setCell ⟨g,q+1,none⟩ b).setCell ⟨g,q+2,none⟩ c
theorem a4L {R N g q e n:Nat}{c:ax}{w:ai}(h:VT N g q e n a b c w V)(f:RD R s w)(i:R≠N)(d:R≠g):RD R s V:=by
 rcases h with rfl|rfl
 .exact(((f.yA _ _ d).yA _ _ d).yA _ _ d).yA _ _ i
 .exact(((f.yA _ _ i).yA _ _ d).yA _ _ d).yA _ _ d
theorem adj {N g q e n:Nat}{c f:ax}{w:ai}(h:VT N g q e n a b c w V)(i:NB N D f F w)(d:g≠N):NB N D f (aj (some ⟨g,0,none⟩) n e) V:=by
 rcases h with rfl|rfl
 .exact(((i.keep (eG.set g _ _ _) d).keep (eG.set g _ _ _) d).keep (eG.set g _ _ _) d).set2 _
 .exact(((i.set2 _).keep (eG.set g _ _ _) d).keep (eG.set g _ _ _) d).keep (eG.set g _ _ _) d
theorem a8Z {N g d B:Nat}{K:List V3}{c x y z:ax}{w:ai}(h:VT N g (K.length*3) d (K.length+1) a b c w V)(e:w.ownsRow B 50 3 (aj (some ⟨g,0,none⟩) (K.length+1) d) (K.length+1) (fU K++[x,y,z]))(f:N<B):
  V.ownsRow B 50 3 (aj (some ⟨g,0,none⟩) (K.length+1) d) (K++[(a,b,c)]).length (fU (K++[(a,b,c)])):=by
 rw[Ex,dO];show V.ownsRow B _ 3 _ (K.length+1) (fU K++[a,b,c]);rw[<- ahm K x y z a b c];rcases h with rfl|rfl
 .exact fF (uA (uA (uA e _ _) _ _) _ _) (eG.set N _ _ _) f
 .exact uA (uA (uA (fF e (eG.set N _ _ _) f) _ _) _ _) _ _
theorem a4M {R N g q e n:Nat}{c:ax}{w:ai}(h:VT N g q e n a b c w V)(f:dL R N A w)(d:A.heap.size<=g):dL R N A V:=by
 rcases h with rfl|rfl
 .exact(((f.a0v _ _ d).a0v _ _ d).a0v _ _ d).trans (dL.yA _ _ _)
 .exact(((f.trans (dL.yA _ _ _)).a0v _ _ d).a0v _ _ d).a0v _ _ d
theorem a90 {N g q e n:Nat}{c:ax}{w:ai}(h:VT N g q e n a b c w V)(k:Nat)(f:k≠N)(d:k≠g):V.heap[k]? =w.heap[k]? :=by
 rcases h with rfl|rfl
 .rw[dw _ _ _ k f,dw _ _ _ k d,dw _ _ _ k d,dw _ _ _ k d]
 .rw[dw _ _ _ k d,dw _ _ _ k d,dw _ _ _ k d,dw _ _ _ k f]
theorem a4N {R N f m A g n:Nat}{o:Option Addr}{u d B V:ai}{K:List V3}{p:List Nd}{kid:Nd}{M c:ax}{l:Obj}{x y z:ax}{cs:Array ax}{v:TypeId}
  (hne:R≠N) (hR:R<W.heap.size) (H:N<W.heap.size) (O:r.length<m) (P:r.length+(p.length+1)<=s.length)
  (HZ:Ab (pG f) (s.length+1) s=zS (p++[kid]) (Ab (pG f) m r))
  (i:u.ownsRow W.heap.size 50 3 (aj o K.length n) K.length (fU K))
  (Q:KR (λb=>W.heap.size<=b/\(Value.slice o K.length n).ownBlock≠some b) u K p)
  (I:dL R N W u) (S:NB N D M (aj o K.length n) u) (L:eG R u d) (rO:RD R r d) (T:uy (λb=>u.heap.size<=b) d a b c kid)
  (J:((d.alloc l).alloc (ak cs v)).drew.grownBy B (Value.slice o K.length n).ownBlock)
  (vN:B.ownsRow W.heap.size 50 3 (aj (some ⟨g,0,none⟩) (K.length+1) A) (K.length+1) (fU K++[x,y,z]))
  (a4:(Value.slice o K.length n).ownBlock=some g\/g=((d.alloc l).alloc (ak cs v)).drew.heap.size)
  (F:VT N g (K.length*3) A (K.length+1) a b c B V):
  RD R r V/\∃(j:List Nd) (U:List V3) (h:Bs) (m':Nat) (C:ax),h.length<m'/\h.length+j.length<=s.length/\Ab (pG f) (s.length+1) s=zS j (Ab (pG f) m' h)/\RD R h V/\NB N D M C V/\V.ownsRow W.heap.size 50 3 C U.length (fU U)/\KR (λb=>W.heap.size<=b/\C.ownBlock≠some b) V U j/\dL R N W V:=by
 have q0:=(vN.lt g rfl).1;have TB:=I.size;have a5:=L.size;have X:∀q,(Value.slice o K.length n).ownBlock=some q->q<u.heap.size:=λq k=>(i.lt q k).2;have eU:∀q,q<d.heap.size->((d.alloc l).alloc (ak cs v)).drew.heap[q]? =d.heap[q]? :=λq k=>((dR (d.alloc l) (ak cs v)).block q (by have:=(dR d l).size;omega)).trans ((dR d l).block q k);have sU:d.heap.size+2=((d.alloc l).alloc (ak cs v)).drew.heap.size:=by
  show _=((d.alloc l).alloc (ak cs v)).heap.size;simp
 have Y:∀q,q<d.heap.size->(Value.slice o K.length n).ownBlock≠some q->B.heap[q]? =d.heap[q]? :=λq k Z=>(J.block q aa (λe=>Z e.symm)).trans (eU q k);have eV:∀q,q<d.heap.size->(Value.slice o K.length n).ownBlock≠some q->q≠N->V.heap[q]? =d.heap[q]? /\ q≠g:=λq k Z hN=>by
  have hg:q≠g:=by grind
  exact⟨(a90 F q hN hg).trans (Y q k Z),hg⟩
 have Te:RD R r B:=by
  unfold RD at rO⊢;rw[Y R (bu rO) (λe=>own_ne i hR e.symm)];exact rO
 have Oe:NB N D M (aj o K.length n) B:=by
  have t:=S.keep L hne;unfold NB at t⊢;rw[Y N (bu t) (λe=>own_ne i H e.symm)];exact t
 have k5:dL R N W B:=by
  have t:dL R N W ((d.alloc l).alloc (ak cs v)).drew:=(((I.trans (dL.jr L)).trans (dL.of_below (dR d l))).trans (dL.of_below (dR _ (ak cs v)))).trans (dL.of_below ⟨rfl,rfl,rfl,bJ _,λ_ _=>rfl⟩);exact t.grown J (λb hb=>(i.lt b hb).1)
 refine⟨a4L F Te hne aa,p++[kid],K++[(a,b,c)],r,m,aj (some ⟨g,0,none⟩) (K.length+1) A,O,by simpa using P,HZ,a4L F Te hne aa,adj F Oe aa,a8Z F vN H,?_,a4M F k5 q0⟩;refine KR.snoc (KR.turn (w:=u) (λq k E=>?_) Q) (uy.turn (w:=d) (λq k E=>?_) kid T)
 .obtain⟨h1,t⟩:=eV q aa k.2 aa;refine⟨⟨k.1,λe=>t (by cases e;rfl)⟩,h1.trans (L.block q E aa)⟩
 .obtain⟨h1,t⟩:=eV q E (λe=>by have:=X q e;omega) aa;exact⟨⟨aa,λe=>t (by cases e;rfl)⟩,h1⟩
set_option maxRecDepth 20000
theorem a92 (R N f:Nat)(IH:El R f)(s:Bs)(D c1:ax)(W:ai)(h:RD R s W)(hN:NB N D c1 (aj none 0 0) W)(hne:R≠N)(hl:s.length<=10000)(hf:s.length<f):
  aL 140 #[aK R,aK N] W λe w'=>dL R N W w'/\KdR R N W.heap.size D c1 (Ab (pG f) (s.length+1) s) e w':=by
 have hR:=h.lt;have S:=hN.lt;obtain⟨i0,hi,a8,a9,b0⟩:=info_parts nodeInfo;go_enter func140,ntmps140;go_wp2_with fail
 go_loopw [] (λwr=>∃(a:List Nd) (K:List V3) (rest:Bs) (m:Nat) (vK:ax),rest.length<m/\rest.length+a.length<=s.length/\Ab (pG f) (s.length+1) s=zS a (Ab (pG f) m rest)/\RD R rest wr/\NB N D c1 vK wr/\wr.ownsRow W.heap.size 50 3 vK K.length (fU K)/\KR (λb=>W.heap.size<=b/\vK.ownBlock≠some b) wr K a/\dL R N W wr) (λwr=>left R wr)
 case atStart=>exact⟨[],[],s,s.length+1,aj none 0 0,aa,aI,(a4y _).symm,h,hN,gp _ _ _ _,trivial,dL.of_below (aW _ _)⟩
 case round=>
  obtain⟨a,K,rest,m,vK,hm,c2,T,x,y,c,X,z⟩:=hrel;have HQ:=aF T;have F:=aF X;clear T X;obtain⟨Y,Z,rfl⟩:=vz c;obtain⟨m,rfl⟩:∃g,m=g+1:=⟨m-1,aa⟩;have c3:=z.size;have HL:Hid (left R wr=rest.length):=x.left;have cR:=x.cell;have a4:Hid (KR (λb=>W.heap.size<=b) wr K a):=KR.turn (λb hb _=>⟨hb.1,rfl⟩) F.out;cases H:[60].isPrefixOf rest with
  |false=>
   have I:Hid (Ab (pG f) (s.length+1) s=some (a,rest)):=(by rw[HQ.out,Y8 (by rw[H];simp)];simp[zS]:Ab (pG f) (s.length+1) s=some (a,rest));go_wp2_with(go_at_call 202;refine(jO rest [60] false _ H).mono ?_;rintro e J ⟨rfl,rfl⟩);go_ret;exact⟨z,Y,_,Z,y,.inr ⟨a,rest,K,I.out,rfl,x,c,a4.out⟩⟩
  |true=>
   cases P:[60,47].isPrefixOf rest with
   |true=>
    have I:Hid (Ab (pG f) (s.length+1) s=some (a,rest)):=(by rw[HQ.out,Y8 (by rw[P];simp)];simp[zS]:Ab (pG f) (s.length+1) s=some (a,rest));go_wp2_with(go_at_call 202;first|(refine(jO rest [60,47] true _ P).mono ?_;rintro e J ⟨rfl,rfl⟩)|(refine(jO rest [60] true _ H).mono ?_;rintro e J ⟨rfl,rfl⟩));go_ret;exact⟨z,Y,_,Z,y,.inr ⟨a,rest,K,I.out,rfl,x,c,a4.out⟩⟩
   |false=>
    have HE:=IH rest wr aa aa x;cases B:pG f rest with
    |none=>
     have I:Hid (Ab (pG f) (s.length+1) s=none):=(by rw[HQ.out,a8Y ⟨H,P⟩ B];rfl:Ab (pG f) (s.length+1) s=none);have L:=HE.mono (R':=λe w'=>eG R wr w'/\∃(d:aO) (i:Option Addr) (j l:Nat) (q:Option Addr) (t v:Nat),e=ay (aH #[.agg #[au d,aj i j l,aj q t v],.bool false])) (λe w' h=>by
      refine⟨h.1,?_⟩;obtain⟨d,i,j,l,q,t,v,A|⟨n,r,A, -⟩⟩:=h.2
      .exact⟨d,i,j,l,q,t,v,A.2⟩
      .rw[B] at A;cases A)
     clear HE B;go_wp2_with(first|(go_at_call 82;refine L.mono ?_;rintro e C ⟨E,d,i,j,l,q,t,v,rfl⟩)|(go_at_call 202;first|(refine(jO rest [60,47] false _ P).mono ?_;rintro e J ⟨rfl,rfl⟩)|(refine(jO rest [60] true _ H).mono ?_;rintro e J ⟨rfl,rfl⟩)));go_ret;exact⟨(z.trans (dL.jr E)).trans (dL.of_below (dR C _)),Y,_,Z,(y.keep E hne).al _,.inl ⟨I.out,rfl⟩⟩
    |some p=>
     obtain⟨kid,r⟩:=p;have b1:=Y4 _ _ _ B;simp only at b1;have I:Hid (Ab (pG f) (s.length+1) s=zS (a++[kid]) (Ab (pG f) m r)):=(by rw[HQ.out,adh ⟨H,P⟩ B,a4z]:Ab (pG f) (s.length+1) s=zS (a++[kid]) (Ab (pG f) m r));have L:=HE.mono (R':=λe w'=>eG R wr w'/\∃(d:aO) (i:Option Addr) (j l:Nat) (q:Option Addr) (t v:Nat),e=ay (aH #[.agg #[au d,aj i j l,aj q t v],.bool true])/\RD R r w'/\uy (λb=>wr.heap.size<=b) w' (au d) (aj i j l) (aj q t v) kid) (λe w' h=>by
      refine⟨h.1,?_⟩;obtain⟨d,i,j,l,q,t,v,A|⟨n,r',A,h3,h4,h5⟩⟩:=h.2
      .rw[B] at A;cases A.1
      .rw[B] at A;cases A;exact⟨d,i,j,l,q,t,v,h3,h4,h5⟩)
     clear HE B;go_upto_region 5 with(first|(go_at_call 82;refine L.mono ?_;rintro e C ⟨E,d,i,j,l,q,t,v,rfl,rO,b2⟩)|(go_at_call 202;first|(refine(jO rest [60,47] false _ P).mono ?_;rintro e J ⟨rfl,rfl⟩)|(refine(jO rest [60] true _ H).mono ?_;rintro e J ⟨rfl,rfl⟩)));have M:=(y.keep E hne).al (ak #[au d,aj i j l,aj q t v] 50);have b3:=rO.al (ak #[au d,aj i j l,aj q t v] 50);have O:=iF (fF c E hR) (ak #[au d,aj i j l,aj q t v] 50);have w:=dY C #[au d,aj i j l,aj q t v] 50;have a5:C.heap.size<(C.alloc (ak #[au d,aj i j l,aj q t v] 50)).heap.size:=bu w;have b4:∀b,(Value.slice Y K.length Z).ownBlock=some b->b<C.heap.size:=λb hb=>((fF c E hR).lt b hb).2;have b5:=E.size;obtain⟨U,hU⟩:∃U,C.alloc (ak #[au d,aj i j l,aj q t v] 50)=U:=⟨_,rfl⟩;rw[hU] at M b3 O w a5⊢;obtain⟨KB,b6⟩:∃KB,C.heap.size=KB:=⟨_,rfl⟩;rw[b6] at w a5 b4 b5⊢;have x0:=aQ w 0 (au d) rfl;have x1:=aQ w 1 (aj i j l) rfl;have x2:=aQ w 2 (aj q t v) rfl;have y2:=M.c2;have c4:=λo=>eD o y2;have H0:=dY U #[au ⟨#[]⟩,aj none 0 0,aj none 0 0] 50;have zU:W.heap.size<=U.heap.size:=aa;have c5:(K.length:Int)<(K.length:Int)+1:=aa;have c6:(K.length:Int)<=10000:=by have:=F.out.len;omega
     have c7:=λo=>eD o x0;have c8:=λo=>eD o x1;have c9:=λo=>eD o x2
     go_region_law ((refine step_append_lies _ rfl (.tmp 30) (.tmp 33) 48 rfl W.heap.size 50 i0 (.agg #[au ⟨#[]⟩,aj none 0 0,aj none 0 0]) 3 64 underlying48 hi a8 a9 b0 rfl aC (aj Y K.length Z) K.length (fU K) rfl (iF O _) ⟨U.heap.size,0,none⟩ 1 1 [au ⟨#[]⟩,aj none 0 0,aj none 0 0] rfl rfl (World.news_of_block H0) (λu hu=>by simp at hu;rcases hu with rfl|rfl|rfl<;>rfl) aC (by rw[dD];omega) aa bq _ rfl ?_;intro g b7 w5 Q a6 b8 d0;have g0:=Jl Q (adi K _ _ _).1;have g1:=Jl Q (adi K _ _ _).2.1;have g2:=Jl Q (adi K _ _ _).2.2;have gf:=a4K Q;have q0:=(Q.lt g rfl).1;have q1:¬N=g:=aa;have q2:¬g=N:=aa;have Oe:=NB.grown (k:=a6) (h:=by exact M.al _) (hne:=own_ne O S);have m2:=Oe.c2;have mf:=Oe.fG))
     all_goals(
      subst hU;have a7:=λV hV=>a4N (V:=V) hne hR S (show r.length<m by omega) (show r.length+(a.length+1)<=s.length by omega) I.out c F.out z y E rO b2 a6 Q b8 hV;have b9:∀V,VT N g (K.length*3) b7 (K.length+1) (au d) (aj i j l) (aj q t v) w5 V->left R V<left R J:=λV hV=>by have h1:=HL.out;have A:=(a7 V hV).1.left;omega
      go_wp2_with fail
      go_roundw
      case rel=>exact(a7 _ (by first|exact Or.inl (by with_reducible rfl)|exact Or.inr (by with_reducible rfl))).2
      case measure=>exact b9 _ (by first|exact Or.inl (by with_reducible rfl)|exact Or.inr (by with_reducible rfl)))
theorem NB.tK {Z R N:Nat}{a:ax}{w:ai}(h:NB Z D a F w)(k:dL R N w w')(b:Z≠R)(c:Z≠N):NB Z D a F w':=by
 have:=h.lt;unfold NB at h⊢;rw[k.block Z this b c];exact h
theorem Md {R N B k n:Nat}{e:TypeId}{d:List ax}{w:ai}(h:w.ownsRow B e k v n d)(f:dL R N w w')(l:R<B)(m:N<B):w'.ownsRow B e k v n d:=by
 refine⟨h.1,?_⟩;rcases h.2 with i|⟨g,b,c,rfl,j,a,rest⟩
 .exact .inl i
 .refine .inr ⟨g,b,c,rfl,j,?_,rest⟩;rw[f.block g (bu a) aa aa];exact a
theorem a0w {B B' k n:Nat}{e:TypeId}{c:List ax}{w:ai}(h:w.ownsRow B e k v n c)(i:B'<=B):w.ownsRow B' e k v n c:=by
 refine⟨h.1,?_⟩;rcases h.2 with d|⟨g,a,b,f,j,rest⟩
 .exact .inl d
 .exact .inr ⟨g,a,b,f,aa,rest⟩
theorem eG.adl {R Z:Nat}{w:ai}(h:eG R W w)(a:W.heap.size<=Z)(i:Nat)(v:ax):eG R W (w.setCell ⟨Z,i,none⟩ v):=
 h.low ((aW _ w).setCell (p:=⟨Z,i,none⟩) a v)
abbrev a4O (Z:Nat)(a b c:ax)(w:ai):ai:=((w.setCell ⟨Z,0,none⟩ a).setCell ⟨Z,1,none⟩ b).setCell ⟨Z,2,none⟩ c
theorem xG {R Z:Nat}{w:ai}(h:eG R W w)(d:W.heap.size<=Z)(a b c:ax):eG R W (a4O Z a b c w):=((h.adl d _ _).adl d _ _).adl d _ _
theorem a4P {R Z U:Nat}{w:ai}{nm:Bs}{d e:ax}{ats:List (Bs×Bs)}{K:List V3}{h:List Nd}{z:Bs}(j:nm.length<=maxLen)(k:∀x∈ats,x.1.length<=maxLen/\x.2.length<=maxLen)
  (i:w.ownsRow U 145 2 d ats.length (bZ ats)) (c:w.ownsRow U 50 3 e K.length (fU K)) (l:KR (λb=>U<=b) w K h) (rd:RD R z w) (m:W.heap.size<=Z) (n:Z<U) (g:R≠Z):
  RD R z (a4O Z (au ⟨nm.toArray⟩) d e w)/\uy (λb=>W.heap.size<=b) (a4O Z (au ⟨nm.toArray⟩) d e w) (au ⟨nm.toArray⟩) d e (.mk nm ats h):=by
 refine⟨((rd.yA _ _ g).yA _ _ g).yA _ _ g,?_⟩;refine uy.turn (Q:=λb=>U<=b) (w:=w) (λb f _=>⟨aa,?_⟩) _ (uy.make j (Dk.turn (Dk.a4B i k) (λb f _=>⟨(i.lt b f).1,rfl⟩)) c l (λb f=>(c.lt b f).1));have a:b≠Z:=aa;rw[dw _ _ _ b a,dw _ _ _ b a,dw _ _ _ b a]
theorem adm {f:Nat}(h:[60].isPrefixOf s=false):pG (f+1) s=none:=by rw[pG,aG (by rw[h];simp)]
theorem a95 {f:Nat}(h:[60].isPrefixOf s=true)(a:s.drop 1=r)(b:mg r=[]):pG (f+1) s=none:=by rw[pG,aR h,a,aR b]
theorem a96 {f:Nat}(h:[60].isPrefixOf s=true)(a:s.drop 1=r)(b:za ((yZ r).length+1) (yZ r)=none):pG (f+1) s=none:=by
 rw[pG,aR h,a,b];split<;>rfl
theorem a97 {f:Nat}{y:Bs}{ats:List (Bs×Bs)}(h:[60].isPrefixOf s=true)(a:s.drop 1=r)(b:mg r≠[])(c:za ((yZ r).length+1) (yZ r)=some (ats,y))(d:[47,62].isPrefixOf y=true):pG (f+1) s=some (.mk (mg r) ats [],y.drop 2):=by
 rw[pG,aR h,a,aG b,c];grind
theorem a98 {f:Nat}{y:Bs}{ats:List (Bs×Bs)}(h:[60].isPrefixOf s=true)(a:s.drop 1=r)(b:mg r≠[])(c:za ((yZ r).length+1) (yZ r)=some (ats,y))(d:[47,62].isPrefixOf y=false)(e:[62].isPrefixOf y=false):pG (f+1) s=none:=by
 rw[pG,aR h,a,aG b,c];grind
theorem a4Q {f:Nat}{y x:Bs}{ats:List (Bs×Bs)}(h:[60].isPrefixOf s=true)(a:s.drop 1=r)(b:mg r≠[])(c:za ((yZ r).length+1) (yZ r)=some (ats,y))(d:[47,62].isPrefixOf y=false)(e:[62].isPrefixOf y=true)(g:y.drop 1=x):
  pG (f+1) s=match Ab (pG f) (x.length+1) x with
   |none=>none
   |some k=>if(Jj (mg r)).isPrefixOf k.2=true then some (.mk (mg r) ats k.1,k.2.drop (Jj (mg r)).length) else none:=by
 rw[pG,aR h,a,aG b,c];grind
theorem Oh (R f:Nat)(IH:El R f):El R (f+1):=by
 intro s W hf hl h;have hR:=h.lt;have b6:=dY W #[au ⟨#[]⟩,aj none 0 0,aj none 0 0] 50;have a4:=h.al (ak #[au ⟨#[]⟩,aj none 0 0,aj none 0 0] 50);have k0:eG R W (W.alloc (ak #[au ⟨#[]⟩,aj none 0 0,aj none 0 0] 50)):=eG.of_below (dR W _);obtain⟨V0,Ot⟩:∃V,W.alloc (ak #[au ⟨#[]⟩,aj none 0 0,aj none 0 0] 50)=V:=⟨_,rfl⟩;have a7:NB W.heap.size (au ⟨#[]⟩) (aj none 0 0) (aj none 0 0) V0:=by rw[<- Ot];exact b6
 have B:R≠W.heap.size:=aa;rw[Ot] at a4 k0;clear b6;cases hp:[60].isPrefixOf s with
 |false=>
  have C:Hid (pG (f+1) s=none):=adm hp;go_enter func82,ntmps82;go_upto_region 1 with fail;clear Ot;go_wp2_with(go_at_call 136;refine(nO R s [60] _ a4 hp).mono ?_;rintro e w1 ⟨rfl,BJ,k1⟩;have a5:=a7.keep k1 B;have D:=a5.c0;have E:=a5.c1;have F:=a5.c2;have af:=a5.fG);refine bg (v:=aH #[.agg #[au ⟨#[]⟩,aj none 0 0,aj none 0 0],.bool false]) (by simp[results,results82,go_sem,D,E,F]) rfl ⟨xG (k0.trans k1) az _ _ _,⟨#[]⟩,none,0,0,none,0,0,.inl ⟨C.out,rfl⟩⟩
 |true=>
  have b7:=rC hp;have a8:=rD R s [60] V0 a4 hp;obtain⟨r,hr⟩:∃r,s.drop 1=r:=⟨_,rfl⟩;have d0:1+r.length=s.length:=by rw[<- hr];exact b7
  rw[show s.drop ([60]:Bs).length=r from hr] at a8;have Y:Hid ([60].isPrefixOf s=true/\s.drop 1=r):=⟨hp,hr⟩;clear b7 hr hp;have d1:=FK r;go_enter func82,ntmps82;go_upto_region 4 with(first|(go_at_call 137;refine(uz R r _ _ rO nx aa).mono ?_;rintro e w3 ⟨rfl,Td,k3⟩;have a9:=b8.keep k3 B;have K3:=K2.trans k3)|(go_at_call 138;refine(oJ [32,61,34,60,62,47] _).mono ?_;rintro e w2 ⟨rfl,rfl⟩)|(go_at_call 136;refine a8.mono ?_;rintro e w1 ⟨rfl,BJ,k1⟩;have nx:=dY w1 #[au ⟨([32,61,34,60,62,47]:Bs).toArray⟩] 9;have rO:=BJ.al (ak #[au ⟨([32,61,34,60,62,47]:Bs).toArray⟩] 9);have b8:=(a7.keep k1 B).al (ak #[au ⟨([32,61,34,60,62,47]:Bs).toArray⟩] 9);have K2:=(k0.trans k1).al (ak #[au ⟨([32,61,34,60,62,47]:Bs).toArray⟩] 9);clear BJ));have b3:=dY w3 #[au ⟨(mg r).toArray⟩,aj none 0 0,aj none 0 0] 50;have b9:=Td.al (ak #[au ⟨(mg r).toArray⟩,aj none 0 0,aj none 0 0] 50);have T:=a9.al (ak #[au ⟨(mg r).toArray⟩,aj none 0 0,aj none 0 0] 50);have KU:=K3.al (ak #[au ⟨(mg r).toArray⟩,aj none 0 0,aj none 0 0] 50);have sZ:=a9.lt;have sK:=K3.size;have c0:=bu b3;obtain⟨U,hU⟩:∃U,w3.alloc (ak #[au ⟨(mg r).toArray⟩,aj none 0 0,aj none 0 0] 50)=U:=⟨_,rfl⟩;obtain⟨N,hN⟩:∃N,w3.heap.size=N:=⟨_,rfl⟩;have c2:NB N (au ⟨(mg r).toArray⟩) (aj none 0 0) (aj none 0 0) U:=by rw[<- hU,<- hN];exact b3
  rw[hU] at b9 T KU c0⊢;rw[hN] at c0 sZ sK⊢;clear b3 hU hN Td a9 K3 k3 rO b8 K2 nx k1 a4 a7 k0 Ot a8;have c:R≠N:=aa;have n:W.heap.size≠N:=aa;have o:W.heap.size≠R:=aa;have c3:(mg r).length<=maxLen:=by rw[dD];omega
  have Z:=c2.c0;by_cases he:mg r=[]
  .have C:Hid (pG (f+1) s=none):=a95 Y.out.1 Y.out.2 he;rw[he] at Z;have D:=T.c0;have E:=T.c1;have F:=T.c2;have af:=T.fG;go_wp2_with fail;refine bg (v:=aH #[.agg #[au ⟨#[]⟩,aj none 0 0,aj none 0 0],.bool false]) (by simp[results,results82,go_sem,D,E,F]) rfl ⟨xG KU az _ _ _,⟨#[]⟩,none,0,0,none,0,0,.inl ⟨C.out,rfl⟩⟩
  .have d2:(mg r).isEmpty=false:=by
    cases ht:mg r with
    |nil=>exact absurd ht he
    |cons _ _=>rfl
   have AT:=a4G R N (yZ r) (au ⟨(mg r).toArray⟩) (aj none 0 0) U b9 c2 c aa;cases hv:za ((yZ r).length+1) (yZ r) with
   |none=>
    have C:Hid (pG (f+1) s=none):=a96 Y.out.1 Y.out.2 hv;have UY:=AT.mono (R':=λe w'=>dL R N U w'/\e=ay (.bool false)) (λe w' h=>by
     refine⟨h.1,?_⟩;obtain⟨vA, -,j|⟨a,z,j, -⟩⟩:=h.2
     .exact j.2
     .rw[hv] at j;cases j)
    clear AT hv;go_wp2_with(go_at_call 139;refine UY.mono ?_;rintro e w5 ⟨m,rfl⟩;have I:=T.tK m o n;have D:=I.c0;have E:=I.c1;have F:=I.c2;have af:=I.fG);refine bg (v:=aH #[.agg #[au ⟨#[]⟩,aj none 0 0,aj none 0 0],.bool false]) (by simp[results,results82,go_sem,D,E,F]) rfl ⟨xG (dL.keep KU m aa) az _ _ _,⟨#[]⟩,none,0,0,none,0,0,.inl ⟨C.out,rfl⟩⟩
   |some q=>
    obtain⟨ats,y⟩:=q;have b4:=Ob _ _ _ hv;have d3:y.length<=(yZ r).length:=by have:=b4.1;simp only at this;omega
    have HA:Hid (∀x∈ats,x.1.length<=maxLen/\x.2.length<=maxLen):=(λx hx=>by have:=b4.2 x hx;rw[dD];omega:∀x∈ats,x.1.length<=maxLen/\x.2.length<=maxLen);clear b4;have HV:=aF hv;have UY:=AT.mono (R':=λe w'=>dL R N U w'/\e=ay (.bool true)/\RD R y w'/\∃oA J,NB N (au ⟨(mg r).toArray⟩) (aj oA ats.length J) (aj none 0 0) w'/\w'.ownsRow U.heap.size 145 2 (aj oA ats.length J) ats.length (bZ ats)) (λe w' h=>by
     refine⟨h.1,?_⟩;obtain⟨vA,h0,j|⟨a,z,j,Q,h4,h5⟩⟩:=h.2
     .rw[hv] at j;cases j.1
     .rw[hv] at j;cases j;obtain⟨oA,J,rfl⟩:=vz h5;exact⟨Q,h4,oA,J,h0,h5⟩)
    clear AT hv;cases Q:[47,62].isPrefixOf y with
    |true=>
     have C:Hid (pG (f+1) s=some (.mk (mg r) ats [],y.drop 2)):=a97 Y.out.1 Y.out.2 he HV.out Q;go_wp2_with(first|(go_at_call 139;refine UY.mono ?_;rintro e w5 ⟨m,rfl,Te,oA,J,Oe,vN⟩;have I:=T.tK m o n)|(go_at_call 136;refine(rD R y [47,62] _ Te Q).mono ?_;rintro e w6 ⟨rfl,c4,d⟩;have p:RD R (y.drop 2) w6:=c4;have i:=Oe.keep d c;have g:=I.keep d B;have w:=fF vN d aa;have K6:=(dL.keep KU m aa).trans d;clear c4;have Z:=i.c0;have b1:=i.c1;have b2:=i.c2;have D:=g.c0;have E:=g.c1;have F:=g.c2;have af:=g.fG));refine bg (v:=aH #[.agg #[au ⟨(mg r).toArray⟩,aj oA ats.length J,aj none 0 0],.bool true]) (by simp[results,results82,go_sem,D,E,F]) rfl ⟨xG K6 az _ _ _,_,_,_,_,_,_,_,.inr ⟨_,_,C.out,rfl,a4P (K:=[]) c3 HA.out w (gp _ _ _ _) trivial p az aa B⟩⟩
    |false=>
     cases h4:[62].isPrefixOf y with
     |false=>
      have C:Hid (pG (f+1) s=none):=a98 Y.out.1 Y.out.2 he HV.out Q h4;go_wp2_with(first|(go_at_call 139;refine UY.mono ?_;rintro e w5 ⟨m,rfl,Te,oA,J,Oe,vN⟩;have I:=T.tK m o n;have K5:=dL.keep KU m aa)|(have z6:=p;go_at_call 136;refine(nO R y [62] _ z6 h4).mono ?_;rintro e w7 ⟨rfl,P,k⟩;have Ox:=i.keep k c;have l:=g.keep k B;have K7:=K6.trans k;have Z:=Ox.c0;have b1:=Ox.c1;have b2:=Ox.c2;have D:=l.c0;have E:=l.c1;have F:=l.c2;have af:=l.fG)|(go_at_call 136;refine(nO R y [47,62] _ Te Q).mono ?_;rintro e w6 ⟨rfl,p,d⟩;have i:=Oe.keep d c;have g:=I.keep d B;have w:=fF vN d aa;have K6:=K5.trans d));refine bg (v:=aH #[.agg #[au ⟨(mg r).toArray⟩,aj oA ats.length J,aj none 0 0],.bool false]) (by simp[results,results82,go_sem,D,E,F]) rfl ⟨xG K7 az _ _ _,_,_,_,_,_,_,_,.inl ⟨C.out,rfl⟩⟩
     |true=>
      have c5:=rC h4;have a6:=λW h=>rD R y [62] W h h4;obtain⟨x,hx⟩:∃x,y.drop 1=x:=⟨_,rfl⟩;have d4:1+x.length=y.length:=by rw[<- hx];exact c5
      rw[show y.drop ([62]:Bs).length=x from hx] at a6;have HK:=a4Q (f:=f) Y.out.1 Y.out.2 he HV.out Q h4 hx;have X:=λ(S:ax) (W:ai) (h:RD R x W) (hn:NB N (au ⟨(mg r).toArray⟩) S (aj none 0 0) W)=>a92 R N f IH x _ S W h hn c aa aa;clear c5 hx h4;cases hk:Ab (pG f) (x.length+1) x with
      |none=>
       have C:Hid (pG (f+1) s=none):=(by rw[HK,hk]:pG (f+1) s=none);have KD:∀(S:ax) (W:ai),RD R x W->NB N (au ⟨(mg r).toArray⟩) S (aj none 0 0) W->aL 140 #[aK R,aK N] W λe w'=>dL R N W w'/\∃L M O,NB N (au ⟨(mg r).toArray⟩) S (aj L M O) w'/\e=ay (.bool false):=λS W h hn=>(X S W h hn).mono (λe w' h=>by
        refine⟨h.1,?_⟩;obtain⟨L,M,O,h0,j|⟨a,z,K,j, -⟩⟩:=h.2
        .exact⟨L,M,O,h0,j.2⟩
        .rw[hk] at j;cases j)
       clear hk HK X;go_wp2_with(first|(go_at_call 139;refine UY.mono ?_;rintro e w5 ⟨m,rfl,Te,oA,J,Oe,vN⟩;have I:=T.tK m o n;have K5:=dL.keep KU m aa)|(go_at_call 140;refine(KD _ _ P Ox).mono ?_;rintro e w8 ⟨k8,L,M,O,t,rfl⟩;have A:=l.tK k8 o n;have s7:=k.size;have s6:=d.size;have s5:=m.size;have K8:=dL.keep K7 k8 aa;have Z:=t.c0;have b1:=t.c1;have b2:=t.c2;have D:=A.c0;have E:=A.c1;have F:=A.c2;have af:=A.fG)|(have z6:=p;go_at_call 136;refine(a6 _ z6).mono ?_;rintro e w7 ⟨rfl,P,k⟩;have Ox:=i.keep k c;have l:=g.keep k B;have kN:=fF w k aa;have K7:=K6.trans k)|(go_at_call 136;refine(nO R y [47,62] _ Te Q).mono ?_;rintro e w6 ⟨rfl,p,d⟩;have i:=Oe.keep d c;have g:=I.keep d B;have w:=fF vN d aa;have K6:=K5.trans d));refine bg (v:=aH #[.agg #[au ⟨(mg r).toArray⟩,aj oA ats.length J,aj L M O],.bool false]) (by simp[results,results82,go_sem,D,E,F]) rfl ⟨xG K8 az _ _ _,_,_,_,_,_,_,_,.inl ⟨C.out,rfl⟩⟩
      |some q=>
       obtain⟨ks,z⟩:=q;have KD:∀(S:ax) (W:ai),RD R x W->NB N (au ⟨(mg r).toArray⟩) S (aj none 0 0) W->aL 140 #[aK R,aK N] W λe w'=>dL R N W w'/\∃L M O,NB N (au ⟨(mg r).toArray⟩) S (aj L M O) w'/\e=ay (.bool true)/\RD R z w'/\∃K:List V3,w'.ownsRow W.heap.size 50 3 (aj L M O) K.length (fU K)/\KR (λb=>W.heap.size<=b) w' K ks:=λS W h hn=>(X S W h hn).mono (λe w' h=>by
        refine⟨h.1,?_⟩;obtain⟨L,M,O,h0,j|⟨a,z',K,j,Q,h4,h5,h6⟩⟩:=h.2
        .rw[hk] at j;cases j.1
        .rw[hk] at j;cases j;exact⟨L,M,O,h0,Q,h4,K,h5,h6⟩)
       have d6:2+(mg r).length<=9223372036854775807:=aa;have d7:2+(mg r).length+1<=9223372036854775807:=aa;cases h5:(Jj (mg r)).isPrefixOf z with
       |false=>
        have C:Hid (pG (f+1) s=none):=(by rw[HK,hk];show(if(Jj (mg r)).isPrefixOf z=true then _ else none)=_;rw[aG (by rw[h5];simp)]:pG (f+1) s=none);clear hk HK X;go_wp2_with(first|(go_at_call 139;refine UY.mono ?_;rintro e w5 ⟨m,rfl,Te,oA,J,Oe,vN⟩;have I:=T.tK m o n;have K5:=dL.keep KU m aa)|(have z8:=b5;go_at_call 136;rw[N7,N7];refine(nO R z (Jj (mg r)) _ z8 h5).mono ?_;rintro e w9 ⟨rfl,c6,k9⟩;have H:=t.keep k9 c;have u:=A.keep k9 B;have K9:=K8.trans k9;clear Z;have Z:=H.c0;have b1:=H.c1;have b2:=H.c2;have D:=u.c0;have E:=u.c1;have F:=u.c2;have af:=u.fG)|(go_at_call 140;refine(KD _ _ P Ox).mono ?_;rintro e w8 ⟨k8,L,M,O,t,rfl,b5,K,c7,c8⟩;have A:=l.tK k8 o n;have s7:=k.size;have s6:=d.size;have s5:=m.size;have K8:=dL.keep K7 k8 aa;have c9:=Md kN k8 aa aa;have Z:=t.c0)|(have z6:=p;go_at_call 136;refine(a6 _ z6).mono ?_;rintro e w7 ⟨rfl,P,k⟩;have Ox:=i.keep k c;have l:=g.keep k B;have kN:=fF w k aa;have K7:=K6.trans k)|(go_at_call 136;refine(nO R y [47,62] _ Te Q).mono ?_;rintro e w6 ⟨rfl,p,d⟩;have i:=Oe.keep d c;have g:=I.keep d B;have w:=fF vN d aa;have K6:=K5.trans d));refine bg (v:=aH #[.agg #[au ⟨(mg r).toArray⟩,aj oA ats.length J,aj L M O],.bool false]) (by simp[results,results82,go_sem,D,E,F]) rfl ⟨xG K9 az _ _ _,_,_,_,_,_,_,_,.inl ⟨C.out,rfl⟩⟩
       |true=>
        have C:Hid (pG (f+1) s=some (.mk (mg r) ats ks,z.drop (Jj (mg r)).length)):=(by rw[HK,hk];show(if(Jj (mg r)).isPrefixOf z=true then _ else none)=_;rw[aR h5]:pG (f+1) s=some (.mk (mg r) ats ks,z.drop (Jj (mg r)).length));clear hk HK X;go_wp2_with(first|(go_at_call 139;refine UY.mono ?_;rintro e w5 ⟨m,rfl,Te,oA,J,Oe,vN⟩;have I:=T.tK m o n;have K5:=dL.keep KU m aa)|(have z8:=b5;go_at_call 136;rw[N7,N7];refine(rD R z (Jj (mg r)) _ z8 h5).mono ?_;rintro e w9 ⟨rfl,c6,k9⟩;have H:=t.keep k9 c;have u:=A.keep k9 B;have K9:=K8.trans k9;clear Z;have Z:=H.c0;have b1:=H.c1;have b2:=H.c2;have D:=u.c0;have E:=u.c1;have F:=u.c2;have af:=u.fG)|(go_at_call 140;refine(KD _ _ P Ox).mono ?_;rintro e w8 ⟨k8,L,M,O,t,rfl,b5,K,c7,c8⟩;have A:=l.tK k8 o n;have s7:=k.size;have s6:=d.size;have s5:=m.size;have K8:=dL.keep K7 k8 aa;have c9:=Md kN k8 aa aa;have Z:=t.c0)|(have z6:=p;go_at_call 136;refine(a6 _ z6).mono ?_;rintro e w7 ⟨rfl,P,k⟩;have Ox:=i.keep k c;have l:=g.keep k B;have kN:=fF w k aa;have K7:=K6.trans k)|(go_at_call 136;refine(nO R y [47,62] _ Te Q).mono ?_;rintro e w6 ⟨rfl,p,d⟩;have i:=Oe.keep d c;have g:=I.keep d B;have w:=fF vN d aa;have K6:=K5.trans d));refine bg (v:=aH #[.agg #[au ⟨(mg r).toArray⟩,aj oA ats.length J,aj L M O],.bool true]) (by simp[results,results82,go_sem,D,E,F]) rfl ⟨xG K9 az _ _ _,_,_,_,_,_,_,_,.inr ⟨_,_,C.out,rfl,a4P (U:=U.heap.size) (K:=K) c3 HA.out (fF c9 k9 aa) (fF (a0w c7 aa) k9 aa) (KR.turn (λb hb _=>⟨aa,k9.block b gm aa⟩) c8) c6 az aa B⟩⟩
end
open Go.RowKit
abbrev St:=Bs×List (Bs×Bs)×Int
def st (f:Fl):St:=(f.name,f.attrs,f.parent)
theorem LE.me {E:Nat->Addr}{w:ai}(h:LE E w):ME E w:=⟨h.de.c2,h.de.c4,h.de.c6,h.de.c7,h.de.c8,h.de.c10⟩
def LvE (W:ai)(LB B DB:Nat)(M:Dm)(nx c:Nat)(r:Int->Nat)(rl:List Rl)(l:List Pc)(w h:Nat):Prop:=∃b d p e a pv f,LvS W LB B b DB d p M nx c r rl e a pv w h f/\a.map fM.pc=l
theorem LvE.base {LB B DB:Nat}{M:Dm}{nx c:Nat}{r:Int->Nat}{rl:List Rl}{l:List Pc}{w h:Nat}(b:LvE W LB B DB M nx c r rl l w h):B<=LB/\B<=DB/\B<=W.heap.size:=by
 obtain⟨d,e,p,f,g,pv,i,a,j⟩:=b;exact⟨a.base,(a.ds.w.low _ _ a.ds.w.mY).1,a.ds.low⟩
theorem LvE.XU {LB B DB:Nat}{M:Dm}{nx c:Nat}{r:Int->Nat}{rl:List Rl}{l:List Pc}{w h:Nat}(b:LvE W LB B DB M nx c r rl l w h)(a:1<=w)(d:w<=40)(f:1<=h)(i:h<=40):
  aL 49 #[aK LB] W λe w'=>∃g cp,e=ay (.agg #[ag w,ag h,aj (some ⟨g,0,none⟩) (w*h) cp])/\w'.ownsRow W.heap.size 9 1 (aj (some ⟨g,0,none⟩) (w*h) cp) (w*h) ((nM bT (l.map iB) w h).map au)/\aD W w':=by
 obtain⟨k,m,p,n,o,pv,q,j,rfl⟩:=b;exact SG j a d f i
def F8 (E:Nat->Addr)(k:Nat)(v:ax)(w:ai):Prop:=v=eV (E k)\/∃a n,v=aU 67 (aK a)/\w.cell? (aJ a 0)=some (ag n)/\w.cell? (aJ a 1)=some (eV (E k))
theorem a4S (l:List Qt):∃k,1<=k/\k<=10/\∀E:Nat->Addr,CO (E 2) (E 3) (E 10) l=E k:=by
 unfold CO Vo
 repeat' split
 all_goals first|exact⟨2,aC,aC,λ_=>rfl⟩|exact⟨3,aC,aC,λ_=>rfl⟩|exact⟨10,aC,aC,λ_=>rfl⟩
theorem Jn {α:Type}{p:α->Prop}:∀{q c t f:List α} {x d:α},q++x::t=c++d::f->(∀y∈q,p y)->¬p x->(∀y∈c,p y)->¬p d->x=d
 |[],[],_,_,_,_,h,_,_,_,_=>(List.cons.inj h).1
 |[],a::_,_,_,_,_,h,_,h2,h3,_=>by grind
 |a::_,[],_,_,_,_,h,h1,_,_,h4=>by grind
 |a::q,b::c,_,_,_,_,h,h1,h2,h3,h4=>Jn (List.cons.inj h).2 (λy e=>h1 y (by simp[e])) h2 (λy e=>h3 y (by simp[e])) h4
theorem Tf (c:Nat):1<=wU c/\wU c<=10:=by
 unfold wU;grind
theorem Ti {α:Type}{P:Ft->Prop}{g:Nat×List Pc->α->Except Ft (Nat×List Pc)}(b:∀s x e,g s x=.error e->P e):∀(l:List α) (s:Nat×List Pc) (e:Ft),l.foldlM g s=.error e->P e
 |[],s,e,h=>by cases h
 |x::l,s,e,h=>by
  rw[List.foldlM_cons] at h;cases a:g s x with
  |error c=>rw[a] at h;cases h;exact b s x _ a
  |ok t=>
   rw[a] at h;exact Ti b l t e h
theorem Jo {M:Dm}{l:List Rl}{n:Int}{m:Mv}{x:Except Nat (List Qt)}{st:Nat×List Pc}{e:Ft}(h:kg M l n m x st=.error e):1<=e.code/\e.code<=10:=by
 unfold kg at h;split at h
 .cases h;exact Tf _
 .grind
theorem Dl (M:Dm)(l:List Rl):∀(f:Nat) (n:Int) (path:List Int) (m:Mv) (st:Nat×List Pc) (e:Ft),gu M l f n path m st=.error e->1<=e.code/\e.code<=10
 |0,n,path,m,st,e,h=>by
  unfold gu at h;grind
 |f+1,n,path,m,st,e,h=>by
  unfold gu at h;split at h
  .cases h;simp
  split at h
  .cases h;simp
  split at h
  .cases h
  split at h
  .cases h;exact Tf _
  .split at h
   .exact Jo h
   .split at h
    .exact Jo h
    .split at h
     .exact Ti (λs x e h=>Dl M l f x _ _ s e h) _ _ e h
     .split at h
      .cases h;simp
      .exact Dl M l f _ _ _ _ e h
theorem Df.num (M:Dm)(rl:List Rl):∃k,1<=k/\k<=10/\∀E v w,Df E M rl v w->F8 E k v w:=by
 cases a:fC M rl with
 |error e=>
  have j:1<=e.code/\e.code<=10:=by
   unfold fC at a;split at a
   .next h=>cases a;exact Dl M rl _ _ _ _ _ _ h
   .cases a
  refine⟨e.code,j.1,j.2,λE v w ⟨b,n,c,d,f⟩=>.inr ⟨b,n,c,d,?_⟩⟩;grind
 |ok l=>
  by_cases o:∃q x t,l=q++x::t/\(∀y∈q,kE (iB y))/\¬kE (iB x)
  .obtain⟨q,x,t,r,s,u⟩:=o;obtain⟨k,z,A,B⟩:=a4S (iB x).pts;refine⟨k,z,A,λE v w ⟨b,n,c,d,f⟩=>.inr ⟨b,n,c,d,?_⟩⟩;rcases f with⟨C,g,m⟩|⟨I,D,J,g,m,F,H⟩
   .grind
   .rw[a] at g;have i:x=D:=Jn (p:=λy=>kE (iB y)) (r.symm.trans (Except.ok.inj g)) s u m F;subst i;rw[H,B]
  .refine⟨1,aC,aC,λE v w ⟨b,n,c,d,f⟩=>?_⟩;grind
def yC (W:ai)(LB B DB:Nat)(M:Dm)(nx c:Nat)(rl:List Rl)(l:List Pc)(w h:Nat)(X:Option Nat):Prop:=∃r a f p g d pv e,LvS W LB B a DB f p M nx c r rl g d pv w h e/\d.map fM.pc=l/\∀b,X=some b->a b=none/\e.ownBlock≠some b
theorem yC.e {LB B DB:Nat}{M:Dm}{nx c:Nat}{rl:List Rl}{l:List Pc}{w h:Nat}{X:Option Nat}(a:yC W LB B DB M nx c rl l w h X):∃r,LvE W LB B DB M nx c r rl l w h:=by
 obtain⟨r,b,d,p,e,f,pv,g,i,j, -⟩:=a;exact⟨r,b,d,p,e,f,pv,g,i,j⟩
theorem yC.below {a:ai}{LB B DB:Nat}{M:Dm}{nx c:Nat}{rl:List Rl}{l:List Pc}{w h:Nat}{X:Option Nat}(b:yC W LB B DB M nx c rl l w h X)(d:aD W a):yC a LB B DB M nx c rl l w h X:=by
 obtain⟨r,e,f,p,g,i,pv,j,k,m,n⟩:=b;exact⟨r,e,f,p,g,i,pv,j,k.below d,m,n⟩
def ahq (B:Nat)(w:ai)(v:ax)(l a:List Pc)(h:Nat):Prop:=∃o n b,v=aj o n b/\w.ownsRow B 3 1 v (uq l a h).length (di ((uq l a h).map λ(y:Nat)=>(y:Int)))
variable {E:Nat->Addr}{x:Ed}{M J:Dm}{nx c I L H:Nat}{rl:List Rl}{l:List Pc}{w h:Nat}

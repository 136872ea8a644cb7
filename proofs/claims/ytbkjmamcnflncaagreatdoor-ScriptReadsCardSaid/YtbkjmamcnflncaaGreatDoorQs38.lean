import Derived.Test.YtbkjmamcnflncaaGreatDoorQs36
import Derived.Test.YtbkjmamcnflncaaGreatDoorQs37
namespace Go.Proofs.YtbkjmamcnflncaaGreatDoor
open Go.Proofs.Tryz
set_option maxHeartbeats 4000000
variable{el:Bs->Option (Nd×Bs)}{D F:au}
section
def eB (c:UInt8):Bool:=c==32||c==61||c==34||c==60||c==62||c==47
def mB (c:UInt8):Bool:=c==60||c==62||c==38||c==34
def lJ (s:Bs):Bs:=s.takeWhile (λc=> !eB c)
def yo (s:Bs):Bs:=s.dropWhile (λc=> !eB c)
def ZL (s:Bs):Bs:=s.takeWhile (λc=> !mB c)
def NI (s:Bs):Bs:=s.dropWhile (λc=> !mB c)
def Lc (u:Bs):Option (UInt8×Bs):=
 if[38,108,116,59].isPrefixOf u=true then some (60,u.drop 4)
 else if[38,103,116,59].isPrefixOf u=true then some (62,u.drop 4)
 else if[38,97,109,112,59].isPrefixOf u=true then some (38,u.drop 5)
 else if[38,113,117,111,116,59].isPrefixOf u=true then some (34,u.drop 6)
 else none
def Ir (a:Bs):Option (Bs×Bs)->Option (Bs×Bs)
 |none=>none
 |some p=>some (a++p.1,p.2)
def Aw:Nat->Bs->Option (Bs×Bs)
 |0,_=>none
 |f+1,s=>if[34].isPrefixOf (NI s)=true then some (ZL s,(NI s).drop 1) else match Lc (NI s) with
  |none=>none
  |some p=>Ir (ZL s++[p.1]) (Aw f p.2)
def Cn (a:List (Bs×Bs)):Option (List (Bs×Bs)×Bs)->Option (List (Bs×Bs)×Bs)
 |none=>none
 |some p=>some (a++p.1,p.2)
def rH (r:Bs):Option ((Bs×Bs)×Bs):=
 if lJ r=[] then none
 else if[61,34].isPrefixOf (yo r)=true then match Aw (((yo r).drop 2).length+1) ((yo r).drop 2) with
  |none=>none
  |some p=>some ((lJ r,p.1),p.2)
 else none
def yt:Nat->Bs->Option (List (Bs×Bs)×Bs)
 |0,_=>none
 |f+1,s=>if[32].isPrefixOf s=true then match rH (s.drop 1) with
   |none=>none
   |some p=>Cn [p.1] (yt f p.2)
  else some ([],s)
def zh (a:List Nd):Option (List Nd×Bs)->Option (List Nd×Bs)
 |none=>none
 |some p=>some (a++p.1,p.2)
def zy (el:Bs->Option (Nd×Bs)):Nat->Bs->Option (List Nd×Bs)
 |0,_=>none
 |f+1,s=>if[60].isPrefixOf s=true/\[60,47].isPrefixOf s=false then match el s with
   |none=>none
   |some p=>zh [p.1] (zy el f p.2)
  else some ([],s)
def Iu (nm:Bs):Bs:=[60,47]++nm++[62]
def oF:Nat->Bs->Option (Nd×Bs)
  |0,_=>none
  |f+1,s=>if[60].isPrefixOf s=true then
      if lJ (s.drop 1)=[] then none
      else match yt ((yo (s.drop 1)).length+1) (yo (s.drop 1)) with
        |none=>none
        |some a=>if[47,62].isPrefixOf a.2=true then some (.mk (lJ (s.drop 1)) a.1 [],a.2.drop 2)
          else if[62].isPrefixOf a.2=true then match zy (oF f) ((a.2.drop 1).length+1) (a.2.drop 1) with
            |none=>none
            |some k=>if(Iu (lJ (s.drop 1))).isPrefixOf k.2=true then some (.mk (lJ (s.drop 1)) a.1 k.1,k.2.drop (Iu (lJ (s.drop 1))).length) else none
          else none
    else none
theorem a3G (o:Option (Bs×Bs)):Ir [] o=o:=by cases o<;>rfl
theorem a3H (a b:Bs)(o:Option (Bs×Bs)):Ir a (Ir b o)=Ir (a++b) o:=by cases o<;>simp[Ir]
theorem a3I (o:Option (List (Bs×Bs)×Bs)):Cn [] o=o:=by cases o<;>rfl
theorem a3J (a b:List (Bs×Bs))(o:Option (List (Bs×Bs)×Bs)):Cn a (Cn b o)=Cn (a++b) o:=by cases o<;>simp[Cn]
theorem a3K (o:Option (List Nd×Bs)):zh [] o=o:=by cases o<;>rfl
theorem a3L (a b:List Nd)(o:Option (List Nd×Bs)):zh a (zh b o)=zh (a++b) o:=by cases o<;>simp[zh]
theorem Ld (P:UInt8->Bool)(s:Bs):(s.takeWhile P).length+(s.dropWhile P).length=s.length:=by
 rw[<- dJ,List.takeWhile_append_dropWhile]
theorem EM (s:Bs):(lJ s).length+(yo s).length=s.length:=Ld _ s
theorem Xh (s:Bs):(ZL s).length+(NI s).length=s.length:=Ld _ s
theorem qL {w s:Bs}(h:w.isPrefixOf s=true):w.length+(s.drop w.length).length=s.length:=by grind
theorem Xi {u:Bs}{c:UInt8}{r:Bs}(h:Lc u=some (c,r)):r.length+4<=u.length:=by
 unfold Lc at h;grind
theorem ZM {a:Bs}{o:Option (Bs×Bs)}{p:Bs×Bs}(h:Ir a o=some p):∃q,o=some q/\p=(a++q.1,q.2):=by
 cases o with
 |none=>cases h
 |some q=>cases h;exact⟨q,rfl,rfl⟩
theorem ZN {a:List (Bs×Bs)}{o:Option (List (Bs×Bs)×Bs)}{p:List (Bs×Bs)×Bs}(h:Cn a o=some p):∃q,o=some q/\p=(a++q.1,q.2):=by
 cases o with
 |none=>cases h
 |some q=>cases h;exact⟨q,rfl,rfl⟩
theorem ZO {a:List Nd}{o:Option (List Nd×Bs)}{p:List Nd×Bs}(h:zh a o=some p):∃q,o=some q/\p=(a++q.1,q.2):=by
 cases o with
 |none=>cases h
 |some q=>cases h;exact⟨q,rfl,rfl⟩
theorem Nn:∀(f:Nat) (s:Bs) (p:Bs×Bs),Aw f s=some p->p.1.length+p.2.length+1<=s.length
 |0,_,_,h=>by cases h
 |f+1,s,p,h=>by
  have c:=Xh s;rw[Aw] at h;split at h
  .rename_i k;grind
  .cases a:Lc (NI s) with
   |none=>rw[a] at h;cases h
   |some q=>
    rw[a] at h;obtain⟨d,b,rfl⟩:=ZM h;have e:=Nn f _ _ b;have g:=Xi a;grind
theorem a3M {r:Bs}{p:(Bs×Bs)×Bs}(h:rH r=some p):p.1.1.length+p.1.2.length+p.2.length+3<=r.length:=by
 unfold rH at h;have b:=EM r;split at h
 .cases h
 split at h
 .rename_i k;have c:=qL k;split at h
  .cases h
  .rename_i q a;cases h;have:=Nn _ _ _ a;grind
 .cases h
theorem Np:∀(f:Nat) (s:Bs) (p:List (Bs×Bs)×Bs),yt f s=some p->p.2.length+4*p.1.length<=s.length/\∀a∈p.1,a.1.length<=s.length/\a.2.length<=s.length
 |0,_,_,h=>by cases h
 |f+1,s,p,h=>by
  rw[yt] at h;split at h
  .rename_i k;have d:=qL k;split at h
   .cases h
   .rename_i q c;have e:=a3M c;obtain⟨g,b,rfl⟩:=ZN h;have i:=Np f _ _ b;grind
  .grind
theorem Xj (a:∀s p,el s=some p->p.2.length+1<=s.length):∀(f:Nat) (s:Bs) (p:List Nd×Bs),zy el f s=some p->p.2.length+p.1.length<=s.length
 |0,_,_,h=>by cases h
 |f+1,s,p,h=>by
  rw[zy] at h;split at h
  .split at h
   .cases h
   .rename_i q c;have d:=a _ _ c;obtain⟨e,b,rfl⟩:=ZO h;have g:=Xj a f _ _ b;grind
  .grind
theorem Xk:∀(f:Nat) (s:Bs) (p:Nd×Bs),oF f s=some p->p.2.length+1<=s.length
 |0,_,_,h=>by cases h
 |f+1,s,p,h=>by
  rw[oF] at h;split at h
  .rename_i k;have d:=qL k;have e:=EM (s.drop 1);split at h
   .cases h
   split at h
   .cases h
   .rename_i a b;have g:=(Np _ _ _ b).1;split at h
    .grind
    split at h
    .split at h
     .cases h
     .rename_i q c;have i:=Xj (Xk f) _ _ _ c;grind
    .cases h
  .cases h
end
section
open Go.RowKit
def Co (Q:Nat->Prop)(w:ah)(v:au)(ats:List (Bs×Bs)):Prop:=∃o a,v=aj o ats.length a/\ats.length<=a/\a<=maxLen/\(o=none->a=0)/\∀i x,ats[i]? =some x->∃b c,Q b/\o=some ⟨b,c,none⟩/\w.cell? (aH b (c+i*2))=some (jq x.1)/\w.cell? (aH b (c+i*2+1))=some (jq x.2)/\x.1.length<=maxLen/\x.2.length<=maxLen
mutual
def sQ (Q:Nat->Prop)(w:ah)(D d F:au):Nd->Prop
 | .mk c ats b=>D=jq c/\c.length<=maxLen/\Co Q w d ats/\∃o a,F=aj o b.length a/\b.length<=a/\a<=maxLen/\(o=none->a=0)/\vg Q w o 0 b
def vg (Q:Nat->Prop)(w:ah)(o:Option Addr)(i:Nat):List Nd->Prop
 |[]=>True
 |k::l=>(∃b a D c F,Q b/\o=some ⟨b,a,none⟩/\w.cell? (aH b (a+i*3))=some D/\w.cell? (aH b (a+i*3+1))=some c/\w.cell? (aH b (a+i*3+2))=some F/\sQ Q w D c F k)/\vg Q w o (i+1) l
end
theorem Co.ats {Q:Nat->Prop}{w:ah}{v:au}{ats:List (Bs×Bs)}(h:Co Q w v ats):qU w v ats:=by
 obtain⟨o,a,b,c,d,e,f⟩:=h;refine⟨o,a,b,c,d,e,λi x g=>?_⟩;grind
mutual
theorem sQ.nd {Q:Nat->Prop}{w:ah}:∀{D b F:au} (n:Nd),sQ Q w D b F n->rJ w D b F n
 |_,_,_,.mk _ _ ks,h=>by
  unfold sQ at h;unfold rJ;obtain⟨c,d,e,o,a,f,g,i,j,k⟩:=h;exact⟨c,d,e.ats,o,a,f,g,i,j,vg.kds ks k⟩
theorem vg.kds {Q:Nat->Prop}{w:ah}:∀{o:Option Addr} {i:Nat} (l:List Nd),vg Q w o i l->mY w o i l
 |_,_,[],_=>by unfold mY;trivial
 |_,_,k::l,h=>by
  unfold vg at h;unfold mY;obtain⟨⟨b,a,D,c,F, -,d,e,f,g,j⟩,m⟩:=h;exact⟨⟨b,a,D,c,F,d,e,f,g,sQ.nd k j⟩,vg.kds l m⟩
end
def ZP (Q Q':Nat->Prop)(w w':ah):Prop:=∀b,Q b->b<w.heap.size->Q' b/\w'.heap[b]? =w.heap[b]?
theorem ZP.cell {Q Q':Nat->Prop}{w w':ah}(h:ZP Q Q' w w'){b i:Nat}{v:au}(a:Q b)(hc:w.cell? (aH b i)=some v):w'.cell? (aH b i)=some v:=by
 rw[qg (h b a (aK hc)).2];exact hc
theorem Co.turn {Q Q':Nat->Prop}{w w':ah}{v:au}{ats:List (Bs×Bs)}(h:Co Q w v ats)(t:ZP Q Q' w w'):Co Q' w' v ats:=by
 obtain⟨o,a,f,g,j,k,l⟩:=h;refine⟨o,a,f,g,j,k,λi x m=>?_⟩;obtain⟨b,c,d,n,e,p,q⟩:=l i x m;exact⟨b,c,(t b d (aK e)).1,n,t.cell d e,t.cell d p,q⟩
mutual
theorem sQ.turn {Q Q':Nat->Prop}{w w':ah}(t:ZP Q Q' w w'):∀{D b F:au} (n:Nd),sQ Q w D b F n->sQ Q' w' D b F n
 |_,_,_,.mk _ _ ks,h=>by
  unfold sQ at h⊢;obtain⟨c,d,e,o,a,f,g,i,j,k⟩:=h;exact⟨c,d,e.turn t,o,a,f,g,i,j,vg.turn t ks k⟩
theorem vg.turn {Q Q':Nat->Prop}{w w':ah}(t:ZP Q Q' w w'):∀{o:Option Addr} {i:Nat} (l:List Nd),vg Q w o i l->vg Q' w' o i l
 |_,_,[],_=>by unfold vg;trivial
 |_,_,k::l,h=>by
  unfold vg at h⊢;obtain⟨⟨b,c,D,e,F,a,f,d,g,j,m⟩,n⟩:=h;exact⟨⟨b,c,D,e,F,(t b a (aK d)).1,f,t.cell a d,t.cell a g,t.cell a j,sQ.turn t k m⟩,vg.turn t l n⟩
end
theorem Co.a3N {w:ah}{B:Nat}{v:au}{ats:List (Bs×Bs)}(h:w.ownsRow B 145 2 v ats.length (bG ats))(m:∀x∈ats,x.1.length<=maxLen/\x.2.length<=maxLen):Co (λb=>v.ownBlock=some b) w v ats:=by
 obtain⟨o,a,c,d,e,f,n⟩:=eT h;refine⟨o,a,c,d,e,f,λi x j=>?_⟩;obtain⟨D,k⟩:=yK ats i x j;obtain⟨g,p,q⟩:=dO h _ _ D;obtain⟨r,l,s⟩:=dO h _ _ k;grind
abbrev V3:=au×au×au
def fG:List V3->List au
 |[]=>[]
 |x::r=>[x.1,x.2.1,x.2.2]++fG r
theorem yu:∀a c:List V3,fG (a++c)=fG a++fG c
 |[],_=>rfl
 |x::a,c=>by simp[fG,yu a c]
theorem Dy (a:List V3)(x:V3):fG (a++[x])=fG a++[x.1,x.2.1,x.2.2]:=by rw[yu];simp[fG]
theorem Iw:∀(M:List V3) (i:Nat) (x:V3),M[i]? =some x->(fG M)[i*3]? =some x.1/\(fG M)[i*3+1]? =some x.2.1/\(fG M)[i*3+2]? =some x.2.2
 |[],i,x,h=>by simp at h
 |y::r,0,x,h=>by
  simp at h;subst h;exact⟨rfl,rfl,rfl⟩
 |y::r,i+1,x,h=>by
  have:=Iw r i x (by simpa using h);rw[show(i+1)*3=i*3+1+1+1 from by omega,show i*3+1+1+1+1=(i*3+1)+1+1+1 from rfl,show i*3+1+1+1+2=(i*3+2)+1+1+1 from rfl];simp only[fG,fV,gF,List.getElem?_cons_succ];exact this
def KR (Q:Nat->Prop)(w:ah):List V3->List Nd->Prop
 |[],[]=>True
 |x::r,n::l=>sQ Q w x.1 x.2.1 x.2.2 n/\KR Q w r l
 |_,_=>False
theorem KR.len {Q:Nat->Prop}{w:ah}:∀{a:List V3} {l:List Nd},KR Q w a l->a.length=l.length
 |[],[],_=>rfl
 |_::_,_::_,h=>by simp[KR.len h.2]
 |[],_::_,h=>h.elim
 |_::_,[],h=>h.elim
theorem KR.turn {Q Q':Nat->Prop}{w w':ah}(t:ZP Q Q' w w'):∀{a:List V3} {l:List Nd},KR Q w a l->KR Q' w' a l
 |[],[],_=>trivial
 |_::_,_::_,h=>⟨sQ.turn t _ h.1,KR.turn t h.2⟩
 |[],_::_,h=>h.elim
 |_::_,[],h=>h.elim
theorem KR.snoc {Q:Nat->Prop}{w:ah}:∀{a:List V3} {l:List Nd} {x:V3} {n:Nd},KR Q w a l->sQ Q w x.1 x.2.1 x.2.2 n->KR Q w (a++[x]) (l++[n])
 |[],[],_,_,_,h=>⟨h,trivial⟩
 |_::_,_::_,_,_,h,k=>⟨h.1,KR.snoc h.2 k⟩
 |[],_::_,_,_,h,_=>h.elim
 |_::_,[],_,_,h,_=>h.elim
theorem KR.get {Q:Nat->Prop}{w:ah}:∀{a:List V3} {l:List Nd} {i:Nat} {n:Nd},KR Q w a l->l[i]? =some n->∃x,a[i]? =some x/\sQ Q w x.1 x.2.1 x.2.2 n
 |[],[],_,_,_,h=>by simp at h
 |x::_,_::_,0,_,h,hx=>by simp at hx;subst hx;exact⟨x,rfl,h.1⟩
 |_::r,_::l,i+1,n,h,hx=>by
  obtain⟨x,b,c⟩:=KR.get (a:=r) (l:=l) (i:=i) (n:=n) h.2 (by simpa using hx);grind
 |[],_::_,_,_,h,_=>h.elim
 |_::_,[],_,_,h,_=>h.elim
theorem Xl {Q:Nat->Prop}{w:ah}{o:Option Addr}:∀{l:List Nd} {i:Nat},(∀j k,l[j]? =some k->∃b off D a F,Q b/\o=some ⟨b,off,none⟩/\w.cell? (aH b (off+(i+j)*3))=some D/\w.cell? (aH b (off+(i+j)*3+1))=some a/\w.cell? (aH b (off+(i+j)*3+2))=some F/\sQ Q w D a F k)->vg Q w o i l
 |[],_,_=>by unfold vg;trivial
 |k::l,i,h=>by
  unfold vg;refine⟨h 0 k rfl,Xl λj c d=>?_⟩;have:=h (j+1) c (by simpa using d);grind
theorem sQ.make {Q:Nat->Prop}{w:ah}{B:Nat}{nm:Bs}{h e:au}{ats:List (Bs×Bs)}{K:List V3}{i:List Nd}(n:nm.length<=maxLen)(p:Co Q w h ats)(d:w.ownsRow B 50 3 e K.length (fG K))(l:KR Q w K i)(z:∀b,e.ownBlock=some b->Q b):sQ Q w (ak ⟨nm.toArray⟩) h e (.mk nm ats i):=by
 unfold sQ;have c:=l.len;obtain⟨o,f,q,A,r,s,C⟩:=eT d;refine⟨rfl,n,p,o,f,by rw[<- c];exact q,aa,r,s,Xl λj k t=>?_⟩;obtain⟨x,u,E⟩:=l.get t;obtain⟨D,v,F⟩:=Iw K j x u;obtain⟨g,y,H⟩:=dO d _ _ D;obtain⟨m,a,I⟩:=dO d _ _ v;obtain rfl:g=m:=by rw[y] at a;cases a;rfl
 obtain⟨m,a,J⟩:=dO d _ _ F;grind
structure dD (r n:Nat)(W w:ah):Prop where
 os:w.os=W.os
 tape:w.tape=W.tape
 output:w.output=W.output
 size:W.heap.size<=w.heap.size
 block:∀k,k<W.heap.size->k≠r->k≠n->w.heap[k]? =W.heap[k]?
theorem dD.trans {r n:Nat}{A B C:ah}(h:dD r n A B)(k:dD r n B C):dD r n A C:=
 ⟨k.os.trans h.os,k.tape.trans h.tape,k.output.trans h.output,bu h.size k.size,λi a b c=>(k.block i (dP a h.size) b c).trans (h.block i a b c)⟩
theorem dD.jf {r n:Nat}{A B:ah}(h:dR r A B):dD r n A B:=⟨h.os,h.tape,h.output,h.size,λi a b _=>h.block i a b⟩
theorem dD.of_below {r n:Nat}{A B:ah}(h:aD A B):dD r n A B:=⟨h.os,h.tape,h.output,h.size,λi a _ _=>h.block i a⟩
theorem dD.xN {r n:Nat}(A:ah)(i:Nat)(v:au):dD r n A (A.setCell ⟨n,i,none⟩ v):=by
 have a:=(aQ n A).setCell (p:=⟨n,i,none⟩) ay v;exact⟨a.os,a.tape,a.output,a.size,λk _ _ b=>bY _ _ _ k b⟩
theorem dD.keep {r n:Nat}{A B C:ah}(h:dR r A B)(k:dD r n B C)(c:A.heap.size<=n):dR r A C:=
 ⟨k.os.trans h.os,k.tape.trans h.tape,k.output.trans h.output,bu h.size k.size,λi a b=>(k.block i (dP a h.size) b aa).trans (h.block i a b)⟩
theorem dD.grown {r n:Nat}{A B C:ah}{g:Option Nat}(h:dD r n A B)(k:B.grownBy C g)(c:∀b,g=some b->A.heap.size<=b):dD r n A C:=
 ⟨k.os.trans h.os,k.tape.trans h.tape,k.output.trans h.output,bu h.size k.size,λi a d f=>(k.block i (dP a h.size) (λe=>by have:=c i e.symm;omega)).trans (h.block i a d f)⟩
theorem dR.al {b:Nat}{A B:ah}(h:dR b A B)(o:Obj):dR b A (B.alloc o):=h.trans (dR.of_below (dI B o))
def RD (R:Nat)(s:Bs)(w:ah):Prop:=w.heap[R]? =some (ai #[ak ⟨s.toArray⟩] 173)
theorem RD.cell {R:Nat}{s:Bs}{w:ah}(h:RD R s w):w.cell? (aH R 0)=some (ak ⟨s.toArray⟩):=aO h 0 _ rfl
theorem RD.eY {R:Nat}{s:Bs}{w:ah}(h:RD R s w):w.frozen? ⟨R,0,none⟩=false:=by
 unfold RD at h;unfold World.frozen?;rw[h];rfl
theorem RD.lt {R:Nat}{s:Bs}{w:ah}(h:RD R s w):R<w.heap.size:=aY h
theorem RD.set {R:Nat}{s t:Bs}{w:ah}(h:RD R s w):RD R t (w.setCell ⟨R,0,none⟩ (ak ⟨t.toArray⟩)):=by
 unfold RD at h⊢;rw[heap_setCell_same w R 0 _ _ _ h];rfl
theorem RD.al {R:Nat}{s:Bs}{w:ah}(h:RD R s w)(o:Obj):RD R s (w.alloc o):=by
 have:=h.lt;unfold RD at h⊢;rw[<- h];exact(dI w o).block R this
set_option maxRecDepth 20000
def a81 (a s:Bs):Bs:=if a.isPrefixOf s=true then s.drop a.length else s
theorem wO {a s:Bs}(h:a.isPrefixOf s=true):a81 a s=s.drop a.length:=if_pos h
theorem Ay {a s:Bs}(h:a.isPrefixOf s=false):a81 a s=s:=if_neg (by rw[h];simp)
theorem Nq (s p:Bs)(w:ah):aJ 198 #[ak ⟨s.toArray⟩,ak ⟨p.toArray⟩] w λe w'=>e=ax (aF #[ak ⟨(a81 p s).toArray⟩,.bool (p.isPrefixOf s)])/\w'=w:=by
 have:=Tryz.strings_CutPrefix ⟨s.toArray⟩ ⟨p.toArray⟩ w;exact this
theorem lK (R:Nat)(s a:Bs)(W:ah)(h:RD R s W):aJ 136 #[aI R,ak ⟨a.toArray⟩] W λe w'=>e=ax (.bool (a.isPrefixOf s))/\RD R (a81 a s) w'/\dR R W w':=by
 have c:=h.cell;have f:=h.eY;go_enter func136,ntmps136;go_wp2_with(go_at_call 198;refine(Nq s a _).mono ?_;rintro e b ⟨rfl,rfl⟩);go_ret;exact⟨rfl,h.set,(dR.of_below (aQ _ _)).setCell _⟩
theorem nS (a:Bs)(W:ah):aJ 138 #[ak ⟨a.toArray⟩] W λe w'=>e=ax (.func (.func 199) #[] #[aI W.heap.size])/\w'=W.alloc (ai #[ak ⟨a.toArray⟩] 9):=by
 go_enter func138,ntmps138;go_wp2;go_ret;exact⟨rfl,rfl⟩
def Vg (a:Bs)(c:UInt8):Bool:=decide (Lib.indexByte a c<0)
theorem a3O (a:Bs)(c:UInt8):Vg a c= !(a.any (λb=>b==c)):=by
 unfold Vg
 induction a with
 |nil=>rfl
 |cons b l e=>
  have f: -1<=Lib.indexByte l c:=by
   clear e
   induction l with
   |nil=>exact Int.le_refl _
   |cons d l e=>unfold Lib.indexByte;split;decide;split;decide;omega
  rw[List.any_cons];unfold Lib.indexByte;grind
theorem agA:Vg [32,61,34,60,62,47]=λc=> !eB c:=by
 funext c;rw[a3O];simp[eB,Bool.beq_comm,Bool.or_assoc]
theorem agB:Vg [60,62,38,34]=λc=> !mB c:=by
 funext c;rw[a3O];simp[mB,Bool.beq_comm,Bool.or_assoc]
theorem Nr (a:Bs)(c:UInt8)(w:ah):aJ 200 #[ak ⟨a.toArray⟩,.int .u8 c.toNat] w λe w'=>e=ax (ag (Lib.indexByte a c))/\w'=w:=by
 have:=Tryz.strings_IndexByte ⟨a.toArray⟩ c.toNat w;rw[show((c.toNat:Int)).toNat.toUInt8=c from by simp] at this;exact this
theorem Rw (a:Bs)(c:UInt8)(B:Nat)(W:ah)(h:W.cell? (aH B 0)=some (ak ⟨a.toArray⟩)):aJ 199 #[.int .u8 c.toNat,aI B] W λe w'=>e=ax (.bool (Vg a c))/\w'=W:=by
 go_enter func199,ntmps199;go_wp2_with(go_at_call 200;refine(Nr a c _).mono ?_;rintro e b ⟨rfl,rfl⟩);go_ret;exact⟨rfl,rfl⟩
theorem Xm {P:UInt8->Bool}{s:Bs}{i:Nat}(h:∀j c,j<i->s[j]? =some c->P c=true)(he:∀c,s[i]? =some c->P c=false):s.takeWhile P=s.take i/\s.dropWhile P=s.drop i:=by
 have a:∀c∈s.take i,P c=true:=λc d=>by
  obtain⟨j,g⟩:=List.mem_iff_getElem?.1 d;grind
 have b:(s.drop i).takeWhile P=[]/\(s.drop i).dropWhile P=s.drop i:=by
  cases f:s.drop i with
  |nil=>exact⟨rfl,rfl⟩
  |cons c r=>
   have:s[i]? =some c:=by have:=congrArg List.head? f;simpa using this
   have:=he c this;exact⟨List.takeWhile_cons_of_neg (by simp[this]),List.dropWhile_cons_of_neg (by simp[this])⟩
 have e:s=s.take i++s.drop i:=(jJ i s).symm;constructor
 .conv=>lhs;rw[e]
  rw[List.takeWhile_append_of_pos a,b.1,List.append_nil]
 .conv=>lhs;rw[e]
  rw[List.dropWhile_append_of_pos a,b.2]
theorem acj (s:Bs)(i:Nat)(h:i<(⟨s.toArray⟩:aM).size):s[i]? =some ((⟨s.toArray⟩:aM)[i]):=by
 rw[<- Ph ⟨s.toArray⟩ i h];grind
theorem Xo (s:Bs)(i:Nat):(⟨s.toArray⟩:aM).extract 0 i=⟨(s.take i).toArray⟩:=by
 have h:=Lib.extract_data ⟨s.toArray⟩ 0 i;cases a:(⟨s.toArray⟩:aM).extract 0 i with
 |mk d=>
  rw[a] at h;simp at h;rw[<- h]
theorem a88 (s:Bs)(i:Nat):(⟨s.toArray⟩:aM).extract i s.length=⟨(s.drop i).toArray⟩:=by
 have h:=Lib.extract_to_end ⟨s.toArray⟩ i;rw[ic] at h;cases a:(⟨s.toArray⟩:aM).extract i s.length with
 |mk d=>
  rw[a] at h;simp at h;rw[<- h]
theorem Rx (R:Nat)(s a:Bs)(B:Nat)(W:ah)(h:RD R s W)(z:W.heap[B]? =some (ai #[ak ⟨a.toArray⟩] 9))(D:s.length<=100000):
  aJ 137 #[aI R,.func (.func 199) #[] #[aI B]] W λe w'=>e=ax (ak ⟨(s.takeWhile (Vg a)).toArray⟩)/\RD R (s.dropWhile (Vg a)) w'/\dR R W w':=by
 have c:=h.cell;have f:=h.eY;have v:=aO z 0 _ rfl;have k:=ic s;go_enter func137,ntmps137;go_wp2_with fail
 go_loopw [5] (λy wr=>∃i:Nat,y=ag i/\i<=s.length/\(∀j c,j<i->s[j]? =some c->Vg a c=true)/\wr=W) (λy _=>s.length-(intOf y).toNat)
 case atStart=>exact⟨0,rfl,bf _,λj _ h=>absurd h (Nat.not_lt_zero _),rfl⟩
 case round=>
  obtain⟨i,rfl,E,l,rfl⟩:=hrel;have r:=aA l;clear l;by_cases m:i<s.length
  .have w:(i:Int)<(s.length:Int):=aa;have b:=acj s i (by rw[k];exact m);have x:i<(⟨s.toArray⟩:aM).size:=by rw[k];exact m
   obtain⟨n,u⟩:∃n,(⟨s.toArray⟩:aM)[i]=n:=⟨_,rfl⟩;rw[u] at b;cases d:Vg a n with
   |true=>
    have A:Hid (∀j c,j<i+1->s[j]? =some c->Vg a c=true):=(λj c F g=>by
     by_cases e:j<i
     .exact r.out j c e g
     .obtain rfl:j=i:=aa;rw[b] at g;cases g;exact d:∀j c,j<i+1->s[j]? =some c->Vg a c=true)
    have o:=Rw a n B wr v;rw[d] at o;clear b d;go_wp2_with(go_at_call 199;refine o.mono ?_;rintro e C ⟨rfl,rfl⟩)
    go_roundw
    case rel=>exact⟨i+1,by go_num,aa,A.out,trivial⟩
    case measure=>simp[intOf];omega
   |false=>
    have p:Hid (s.takeWhile (Vg a)=s.take i/\s.dropWhile (Vg a)=s.drop i):=Xm r.out (λc g=>by rw[b] at g;cases g;exact d);have o:=Rw a n B wr v;rw[d] at o;clear b d;go_wp2_with(go_at_call 199;refine o.mono ?_;rintro e C ⟨rfl,rfl⟩);go_ret;refine⟨by rw[p.out.1,<- Xo];rfl,?_,(dR.of_below (aQ _ _)).setCell _⟩;have q:=RD.set (t:=s.drop i) h;rw[<- a88] at q;rw[p.out.2];exact q
  .obtain rfl:i=s.length:=aa;have p:Hid (s.takeWhile (Vg a)=s.take s.length/\s.dropWhile (Vg a)=s.drop s.length):=Xm r.out (λc g=>by rw[ES ay] at g;cases g);go_wp2_with fail;go_ret;refine⟨by rw[p.out.1,<- Xo];rfl,?_,(dR.of_below (aQ _ _)).setCell _⟩;rw[p.out.2,List.drop_length];exact RD.set (t:=[]) h
theorem dR.grown {b:Nat}{A B:ah}(h:dR b A B):A.grownBy B (some b):=⟨h.os,h.tape,h.output,h.size,λk c a=>h.block k c (λe=>a (by rw[e]))⟩
theorem dR.refl (b:Nat)(A:ah):dR b A A:=dR.of_below (aQ _ _)
theorem dR.low {b:Nat}{A B C:ah}(h:dR b A B)(k:Below A.heap.size B C):dR b A C:=⟨k.os.trans h.os,k.tape.trans h.tape,k.output.trans h.output,bu h.size k.size,λi a c=>(k.block i a).trans (h.block i a c)⟩
theorem Bd.keep {B b R:Nat}{l:Bs}{w w':ah}(h:Bd B b l w)(k:dR R w w')(i:R<B):Bd B b l w':=by
 have a:∀p,Lib.BuilderAtF 187 5 B b p (Lib.byteCells l) w->Lib.BuilderAtF 187 5 B b p (Lib.byteCells l) w':=λp ⟨g,v,d,f,c⟩=>
  ⟨g,v,by rw[k.block b (aY d) aa];exact d,f.kept k.grown (.inr λe=>by have:=(f.lt R e).1;omega),c⟩
 exact h.elim (λx=>.inl (a _ x)) (λx=>.inr (a _ x))
theorem dR.blk {b:Nat}{A B:ah}(h:dR b A B){N:Nat}{o:Obj}(a:A.heap[N]? =some o)(hne:N≠b):B.heap[N]? =some o:=by
 rw[h.block N (aY a) hne];exact a
theorem a3P (u:Bs):Lc u=if(wl 60).isPrefixOf u=true then some (60,u.drop (wl 60).length) else if(wl 62).isPrefixOf u=true then some (62,u.drop (wl 62).length) else if(wl 38).isPrefixOf u=true then some (38,u.drop (wl 38).length) else if(wl 34).isPrefixOf u=true then some (34,u.drop (wl 34).length) else none:=rfl
def MkR (R:Nat)(u:Bs)(e:Ending)(w:ah):Prop:=(Lc u=none/\e=ax (aF #[.int .u8 0,.bool false]))\/∃c r,Lc u=some (c,r)/\e=ax (aF #[.int .u8 (UInt8.toNat c),.bool true])/\RD R r w
theorem Ry (R:Nat)(u:Bs)(W:ah)(h:RD R u W):
  aJ 270 #[aI R] W λe w'=>dR R W w'/\MkR R u e w':=by
 have x:=a3P u;have p:=qC 60;have q:=qC 62;have r:=qC 38;have s:=qC 34;rw[FX] at p q r s;go_enter func270,ntmps270;go_wp2_with fail
 go_loopw [4] (λy wr=>∃i:Nat,y=ag i/\i<=4/\(∀j c,j<i->([60,62,38,34]:Bs)[j]? =some c->(wl c).isPrefixOf u=false)/\RD R u wr/\dR R W wr) (λy _=>4-(intOf y).toNat)
 case atStart=>exact⟨0,rfl,bf _,λj _ h=>absurd h (Nat.not_lt_zero _),h,dR.refl _ _⟩
 case round=>
  obtain⟨i,rfl,z,t,k,g⟩:=hrel;have o:=aA t;clear t;have v:=aA x;clear x;rcases i with _|_|_|_|_|i
  .cases a:(wl 60).isPrefixOf u with
   |true=>
    have f:=lK R u (wl 60) wr k;rw[a,wO a] at f;have l:Hid (Lc u=some (60,u.drop (wl 60).length)):=(by rw[v.out,if_pos a]:Lc u=some (60,u.drop (wl 60).length));clear a;go_wp2_with(first|(go_at_call 224;refine(p _).mono ?_;rintro e m ⟨rfl,rfl⟩)|(go_at_call 136;refine f.mono ?_;rintro e m ⟨rfl,b,d⟩))
    go_ret2
    exact⟨g.trans d,.inr ⟨60,_,l.out,rfl,b⟩⟩
   |false=>
    have f:=lK R u (wl 60) wr k;rw[a,Ay a] at f;have l:=aA a;clear a;go_wp2_with(first|(go_at_call 224;refine(p _).mono ?_;rintro e m ⟨rfl,rfl⟩)|(go_at_call 136;refine f.mono ?_;rintro e m ⟨rfl,b,d⟩))
    go_roundw
    case rel=>exact⟨1,by go_num,aa,λj c w n=>by
     by_cases e:j<0
     .exact o.out j c aa n
     .obtain rfl:j=0:=aa;simp at n;subst n;exact l.out,b,g.trans d⟩
    case measure=>simp[intOf]
  .cases a:(wl 62).isPrefixOf u with
   |true=>
    have f:=lK R u (wl 62) wr k;rw[a,wO a] at f;have l:Hid (Lc u=some (62,u.drop (wl 62).length)):=(by rw[v.out,if_neg (by rw[o.out 0 60 aa rfl];simp),if_pos a]:Lc u=some (62,u.drop (wl 62).length));clear a;go_wp2_with(first|(go_at_call 224;refine(q _).mono ?_;rintro e m ⟨rfl,rfl⟩)|(go_at_call 136;refine f.mono ?_;rintro e m ⟨rfl,b,d⟩))
    go_ret2
    exact⟨g.trans d,.inr ⟨62,_,l.out,rfl,b⟩⟩
   |false=>
    have f:=lK R u (wl 62) wr k;rw[a,Ay a] at f;have l:=aA a;clear a;go_wp2_with(first|(go_at_call 224;refine(q _).mono ?_;rintro e m ⟨rfl,rfl⟩)|(go_at_call 136;refine f.mono ?_;rintro e m ⟨rfl,b,d⟩))
    go_roundw
    case rel=>exact⟨2,by go_num,aa,λj c w n=>by
     by_cases e:j<1
     .exact o.out j c aa n
     .obtain rfl:j=1:=aa;simp at n;subst n;exact l.out,b,g.trans d⟩
    case measure=>simp[intOf]
  .cases a:(wl 38).isPrefixOf u with
   |true=>
    have f:=lK R u (wl 38) wr k;rw[a,wO a] at f;have l:Hid (Lc u=some (38,u.drop (wl 38).length)):=(by rw[v.out,if_neg (by rw[o.out 0 60 aa rfl];simp),if_neg (by rw[o.out 1 62 aa rfl];simp),if_pos a]:Lc u=some (38,u.drop (wl 38).length));clear a;go_wp2_with(first|(go_at_call 224;refine(r _).mono ?_;rintro e m ⟨rfl,rfl⟩)|(go_at_call 136;refine f.mono ?_;rintro e m ⟨rfl,b,d⟩))
    go_ret2
    exact⟨g.trans d,.inr ⟨38,_,l.out,rfl,b⟩⟩
   |false=>
    have f:=lK R u (wl 38) wr k;rw[a,Ay a] at f;have l:=aA a;clear a;go_wp2_with(first|(go_at_call 224;refine(r _).mono ?_;rintro e m ⟨rfl,rfl⟩)|(go_at_call 136;refine f.mono ?_;rintro e m ⟨rfl,b,d⟩))
    go_roundw
    case rel=>exact⟨3,by go_num,aa,λj c w n=>by
     by_cases e:j<2
     .exact o.out j c aa n
     .obtain rfl:j=2:=aa;simp at n;subst n;exact l.out,b,g.trans d⟩
    case measure=>simp[intOf]
  .cases a:(wl 34).isPrefixOf u with
   |true=>
    have f:=lK R u (wl 34) wr k;rw[a,wO a] at f;have l:Hid (Lc u=some (34,u.drop (wl 34).length)):=(by rw[v.out,if_neg (by rw[o.out 0 60 aa rfl];simp),if_neg (by rw[o.out 1 62 aa rfl];simp),if_neg (by rw[o.out 2 38 aa rfl];simp),if_pos a]:Lc u=some (34,u.drop (wl 34).length));clear a;go_wp2_with(first|(go_at_call 224;refine(s _).mono ?_;rintro e m ⟨rfl,rfl⟩)|(go_at_call 136;refine f.mono ?_;rintro e m ⟨rfl,b,d⟩))
    go_ret2
    exact⟨g.trans d,.inr ⟨34,_,l.out,rfl,b⟩⟩
   |false=>
    have f:=lK R u (wl 34) wr k;rw[a,Ay a] at f;have l:=aA a;clear a;go_wp2_with(first|(go_at_call 224;refine(s _).mono ?_;rintro e m ⟨rfl,rfl⟩)|(go_at_call 136;refine f.mono ?_;rintro e m ⟨rfl,b,d⟩))
    go_roundw
    case rel=>exact⟨4,by go_num,aa,λj c w n=>by
     by_cases e:j<3
     .exact o.out j c aa n
     .obtain rfl:j=3:=aa;simp at n;subst n;exact l.out,b,g.trans d⟩
    case measure=>simp[intOf]
  .have l:Hid (Lc u=none):=(by rw[v.out,if_neg (by rw[o.out 0 60 aa rfl];simp),if_neg (by rw[o.out 1 62 aa rfl];simp),if_neg (by rw[o.out 2 38 aa rfl];simp),if_neg (by rw[o.out 3 34 aa rfl];simp)]:Lc u=none);go_wp2_with fail
   go_ret2
   exact⟨g,.inl ⟨l.out,rfl⟩⟩
  .omega
def left (R:Nat)(w:ah):Nat:=match w.cell? (aH R 0) with
 |some (ak s)=>s.size
 |_=>0
theorem RD.left {R:Nat}{s:Bs}{w:ah}(h:RD R s w):left R w=s.length:=by
 unfold Go.Proofs.YtbkjmamcnflncaaGreatDoor.left;rw[h.cell];exact ic s
theorem a8a {f:Nat}{s:Bs}(h:[34].isPrefixOf (NI s)=true):Aw (f+1) s=some (ZL s,(NI s).drop 1):=by rw[Aw,if_pos h]
theorem ack {f:Nat}{s:Bs}(h:[34].isPrefixOf (NI s)=false)(a:Lc (NI s)=none):Aw (f+1) s=none:=by rw[Aw,if_neg (by rw[h];simp),a]
theorem acm {f:Nat}{s:Bs}{c:UInt8}{r:Bs}(h:[34].isPrefixOf (NI s)=false)(a:Lc (NI s)=some (c,r)):Aw (f+1) s=Ir (ZL s++[c]) (Aw f r):=by rw[Aw,if_neg (by rw[h];simp),a]
theorem RD.low {R B:Nat}{s:Bs}{w w':ah}(h:RD R s w)(a:Below B w w')(b:R<B):RD R s w':=by
 unfold RD at h⊢;rw[<- h];exact a.block R b
theorem qM (R:Nat)(s a:Bs)(W:ah)(h:RD R s W)(hp:a.isPrefixOf s=true):aJ 136 #[aI R,ak ⟨a.toArray⟩] W λe w'=>e=ax (.bool true)/\RD R (s.drop a.length) w'/\dR R W w':=by
 have:=lK R s a W h;rw[hp,wO hp] at this;exact this
theorem ni (R:Nat)(s a:Bs)(W:ah)(h:RD R s W)(hp:a.isPrefixOf s=false):aJ 136 #[aI R,ak ⟨a.toArray⟩] W λe w'=>e=ax (.bool false)/\RD R s w'/\dR R W w':=by
 have:=lK R s a W h;rw[hp,Ay hp] at this;exact this
theorem ZQ (R:Nat)(s:Bs)(B:Nat)(W:ah)(h:RD R s W)(a:W.heap[B]? =some (ai #[ak ⟨([60,62,38,34]:Bs).toArray⟩] 9))(b:s.length<=100000):
  aJ 137 #[aI R,.func (.func 199) #[] #[aI B]] W λe w'=>e=ax (ak ⟨(ZL s).toArray⟩)/\RD R (NI s) w'/\dR R W w':=by
 have:=Rx R s _ B W h a b;rw[agB] at this;exact this
theorem sS (R:Nat)(s:Bs)(B:Nat)(W:ah)(h:RD R s W)(a:W.heap[B]? =some (ai #[ak ⟨([32,61,34,60,62,47]:Bs).toArray⟩] 9))(b:s.length<=100000):
  aJ 137 #[aI R,.func (.func 199) #[] #[aI B]] W λe w'=>e=ax (ak ⟨(lJ s).toArray⟩)/\RD R (yo s) w'/\dR R W w':=by
 have:=Rx R s _ B W h a b;rw[agA] at this;exact this
def VlR (R:Nat)(o:Option (Bs×Bs))(e:Ending)(w:ah):Prop:=(o=none/\e=ax (aF #[ak ⟨#[]⟩,.bool false]))\/∃v r:Bs,o=some (v,r)/\e=ax (aF #[ak ⟨v.toArray⟩,.bool true])/\RD R r w
theorem Le (R:Nat)(s:Bs)(W:ah)(h:RD R s W)(hl:s.length<=10000):
  aJ 201 #[aI R] W λe w'=>dR R W w'/\VlR R (Aw (s.length+1) s) e w':=by
 have i:=h.lt;have S:=dI W (ai #[.pointer none,aj none 0 0] 187);have y:=Bd.fresh W.heap.size W ay;go_enter func201,ntmps201;go_wp2_with fail;obtain⟨V,T⟩:∃V,W.alloc (ai #[.pointer none,aj none 0 0] 187)=V:=⟨_,rfl⟩;have z:=h.al (ai #[.pointer none,aj none 0 0] 187);rw[T] at S y z⊢;clear T
 go_loopw [] (λwr=>∃(a rest:Bs) (f:Nat),rest.length<f/\a.length+rest.length<=s.length/\Aw (s.length+1) s=Ir a (Aw f rest)/\RD R rest wr/\Bd W.heap.size W.heap.size a wr/\dR R W wr) (λwr=>left R wr)
 case atStart=>exact⟨[],s,s.length+1,aa,aG,(a3G _).symm,z,y,dR.of_below S⟩
 case round=>
  obtain⟨a,rest,f,hf,a5,A,o,B,J⟩:=hrel;have K:=aA A;clear A;obtain⟨f,rfl⟩:∃g,f=g+1:=⟨f-1,aa⟩;have a6:=Xh rest;have L:=nS [60,62,38,34] wr;have AA:=o.al (ai #[ak ⟨([60,62,38,34]:Bs).toArray⟩] 9);have U:=dN wr #[ak ⟨([60,62,38,34]:Bs).toArray⟩] 9;have M:=ZQ R rest wr.heap.size _ AA U aa;have N:=J.trans (dR.of_below (dI wr (ai #[ak ⟨([60,62,38,34]:Bs).toArray⟩] 9)));have p:=B.al (ai #[ak ⟨([60,62,38,34]:Bs).toArray⟩] 9);have HL:Hid (left R wr=rest.length):=o.left;clear o B U AA;cases w:[34].isPrefixOf (NI rest) with
  |true=>
   have C:Hid (Aw (s.length+1) s=some (a++ZL rest,(NI rest).drop 1)):=(by rw[K.out,a8a w];rfl:Aw (s.length+1) s=some (a++ZL rest,(NI rest).drop 1));go_wp2_with(first|(go_at_call 138;refine L.mono ?_;rintro e X ⟨rfl,rfl⟩)|(go_at_call 137;refine M.mono ?_;rintro e Y ⟨rfl,qN,m⟩;have K2:=N.trans m;have j:=p.keep m i)|(go_at_call 154;refine(fP W.heap.size W.heap.size a (ZL rest) _ j aa K2.size).mono ?_;rintro e Z ⟨rfl,l,b⟩;have D:=qN.low b.low i;have E:=K2.low b.low)|(go_at_call 136;refine(qM R _ [34] _ D w).mono ?_;rintro e w4 ⟨rfl,k,t⟩;have u:=l.keep t i;have x:=E.trans t)|(go_at_call 94;refine(Tryz.Builder_String_any_k W.heap.size _ _ _ u x.size).mono ?_;rintro e w5 ⟨rfl, -,F, -⟩))
   go_ret2
   exact⟨x.low F,.inr ⟨_,_,C.out,rfl,k.low F i⟩⟩
  |false=>
   cases n:Lc (NI rest) with
   |none=>
    have C:Hid (Aw (s.length+1) s=none):=(by rw[K.out,ack w n];rfl:Aw (s.length+1) s=none);have O:∀W,RD R (NI rest) W->aJ 270 #[aI R] W λe w'=>dR R W w'/\e=ax (aF #[.int .u8 0,.bool false]):=λW h=>(Ry R _ W h).mono (λe w' ⟨H,d⟩=>⟨H,by
     rcases d with d|⟨c,r,d, -⟩
     .exact d.2
     .rw[n] at d;cases d⟩)
    clear n;go_wp2_with(first|(go_at_call 138;refine L.mono ?_;rintro e X ⟨rfl,rfl⟩)|(go_at_call 137;refine M.mono ?_;rintro e Y ⟨rfl,qN,m⟩;have K2:=N.trans m;have j:=p.keep m i)|(go_at_call 154;refine(fP W.heap.size W.heap.size a (ZL rest) _ j aa K2.size).mono ?_;rintro e Z ⟨rfl,l,b⟩;have D:=qN.low b.low i;have E:=K2.low b.low)|(go_at_call 136;refine(ni R _ [34] _ D w).mono ?_;rintro e w4 ⟨rfl,k,t⟩;have x:=E.trans t)|(go_at_call 270;refine(O _ k).mono ?_;rintro e w5 ⟨I,rfl⟩))
    go_ret2
    exact⟨x.trans I,.inl ⟨C.out,rfl⟩⟩
   |some q=>
    obtain⟨c,r⟩:=q;have a4:=Xi n;have C:Hid (Aw (s.length+1) s=Ir (a++ZL rest++[c]) (Aw f r)):=(by rw[K.out,acm w n,a3H,kV]:Aw (s.length+1) s=Ir (a++ZL rest++[c]) (Aw f r));have O:∀W,RD R (NI rest) W->aJ 270 #[aI R] W λe w'=>dR R W w'/\e=ax (aF #[.int .u8 (UInt8.toNat c),.bool true])/\RD R r w':=λW h=>(Ry R _ W h).mono (λe w' ⟨H,d⟩=>⟨H,by
     rcases d with d|⟨c',r',d,h3,h4⟩
     .rw[n] at d;cases d.1
     .rw[n] at d;cases d;exact⟨h3,h4⟩⟩)
    clear n;go_wp2_with(first|(go_at_call 138;refine L.mono ?_;rintro e X ⟨rfl,rfl⟩)|(go_at_call 137;refine M.mono ?_;rintro e Y ⟨rfl,qN,m⟩;have K2:=N.trans m;have j:=p.keep m i)|(go_at_call 154;refine(fP W.heap.size W.heap.size a (ZL rest) _ j aa K2.size).mono ?_;rintro e Z ⟨rfl,l,b⟩;have D:=qN.low b.low i;have E:=K2.low b.low)|(go_at_call 136;refine(ni R _ [34] _ D w).mono ?_;rintro e w4 ⟨rfl,k,t⟩;have u:=l.keep t i;have x:=E.trans t)|(go_at_call 270;refine(O _ k).mono ?_;rintro e w5 ⟨I,rfl,RH⟩;have P:=u.keep I i;have K5:=x.trans I)|(go_at_call 92;refine(yc W.heap.size W.heap.size _ c _ P aX K5.size).mono ?_;rintro e w6 ⟨rfl,Q,v⟩))
    go_roundw
    case rel=>exact⟨_,_,f,aa,aX,C.out,RH.low v.low i,Q,K5.low v.low⟩
    case measure=>have H:=HL.out;have d:=(RH.low v.low i).left;omega
theorem NB.eY {N:Nat}{a:au}{w:ah}(h:NB N D a F w)(i:Nat):w.frozen? ⟨N,i,none⟩=false:=by
 unfold NB at h;unfold World.frozen?;rw[h];simp
theorem NB.lt {N:Nat}{a:au}{w:ah}(h:NB N D a F w):N<w.heap.size:=aY h
theorem NB.keep {N R:Nat}{a:au}{w w':ah}(h:NB N D a F w)(k:dR R w w')(hne:R≠N):NB N D a F w':=k.blk h (λe=>hne e.symm)
theorem NB.al {N:Nat}{a:au}{w:ah}(h:NB N D a F w)(o:Obj):NB N D a F (w.alloc o):=by
 have:=h.lt;unfold NB at h⊢;rw[<- h];exact(dI w o).block N this
theorem NB.grown {N:Nat}{g:Option Nat}{a:au}{w w':ah}(h:NB N D a F w)(k:w.grownBy w' g)(hne:some N≠g):NB N D a F w':=by
 have:=h.lt;unfold NB at h⊢;rw[<- h];exact k.block N this hne
theorem NB.set1 {N:Nat}{a:au}{w:ah}(h:NB N D a F w)(v:au):NB N D v F (w.setCell ⟨N,1,none⟩ v):=by
 unfold NB at h⊢;rw[heap_setCell_same w N 1 _ _ _ h];rfl
theorem NB.set2 {N:Nat}{a:au}{w:ah}(h:NB N D a F w)(v:au):NB N D a v (w.setCell ⟨N,2,none⟩ v):=by
 unfold NB at h⊢;rw[heap_setCell_same w N 2 _ _ _ h];rfl
theorem RD.grown {R:Nat}{g:Option Nat}{s:Bs}{w w':ah}(h:RD R s w)(k:w.grownBy w' g)(hne:some R≠g):RD R s w':=by
 have:=h.lt;unfold RD at h⊢;rw[<- h];exact k.block R this hne
theorem RD.xN {R N:Nat}{s:Bs}{w:ah}(h:RD R s w)(i:Nat)(v:au)(hne:R≠N):RD R s (w.setCell ⟨N,i,none⟩ v):=by
 unfold RD at h⊢;rw[<- h];exact bY w _ v R hne
theorem dR.set (N:Nat)(i:Nat)(w:ah)(v:au):dR N w (w.setCell ⟨N,i,none⟩ v):=by
 have a:=(aQ N w).setCell (p:=⟨N,i,none⟩) ay v;exact⟨a.os,a.tape,a.output,a.size,λk _ b=>bY _ _ _ k b⟩
theorem eX {R B k n:Nat}{e:TypeId}{v:au}{a:List au}{w w':ah}(h:w.ownsRow B e k v n a)(b:dR R w w')(c:R<B):w'.ownsRow B e k v n a:=
 h.kept b.grown (.inr λe=>by have:=(h.lt R e).1;omega)
theorem ZR (w:ah)(a b:au)(t:TypeId):∀j u,[a,b][j]? =some u->(w.alloc (.cells #[a,b] t)).cell? ((⟨w.heap.size,0,none⟩:Addr).add j)=some u:=by
 intro j u h;have e:(⟨w.heap.size,0,none⟩:Addr).add j=⟨w.heap.size,j,none⟩:=by unfold Addr.add;split<;>simp_all
 rw[e];exact jZ w #[a,b] t j u (by simpa using h)
theorem uG {w:ah}{B:Nat}{e:TypeId}{k:Nat}{v:au}{n:Nat}{b:List au}(h:w.ownsRow B e k v n b):∃o a,v=.slice o n a:=by
 obtain⟨o,a,c, -⟩:=eT h;grind
theorem acn {f:Nat}{s:Bs}(h:[32].isPrefixOf s=false):yt (f+1) s=some ([],s):=by rw[yt,if_neg (by rw[h];simp)]
theorem a8b {f:Nat}{s:Bs}(h:[32].isPrefixOf s=true)(a:rH (s.drop 1)=none):yt (f+1) s=none:=by rw[yt,if_pos h,a]
theorem aco {f:Nat}{s:Bs}{a:Bs×Bs}{r:Bs}(h:[32].isPrefixOf s=true)(b:rH (s.drop 1)=some (a,r)):yt (f+1) s=Cn [a] (yt f r):=by rw[yt,if_pos h,b]
theorem a3R {r:Bs}(h:lJ r=[]):rH r=none:=by rw[rH,if_pos h]
theorem acp {r:Bs}(h:[61,34].isPrefixOf (yo r)=false):rH r=none:=by
 rw[rH];grind
theorem acr {r:Bs}(a:lJ r≠[])(h:[61,34].isPrefixOf (yo r)=true)(b:Aw (((yo r).drop 2).length+1) ((yo r).drop 2)=none):rH r=none:=by rw[rH,if_neg a,if_pos h,b]
theorem a8c {r v z:Bs}(a:lJ r≠[])(h:[61,34].isPrefixOf (yo r)=true)(b:Aw (((yo r).drop 2).length+1) ((yo r).drop 2)=some (v,z)):rH r=some ((lJ r,v),z):=by rw[rH,if_neg a,if_pos h,b]
def AtR (R N B:Nat)(D F:au)(o:Option (List (Bs×Bs)×Bs))(e:Ending)(w:ah):Prop:=∃a,NB N D a F w/\((o=none/\e=.returned (.bool false))\/∃(ats:List (Bs×Bs)) (r:Bs),o=some (ats,r)/\e=.returned (.bool true)/\RD R r w/\w.ownsRow B 145 2 a ats.length (bG ats))
theorem a3S (R N:Nat)(s:Bs)(D F:au)(W:ah)(h:RD R s W)(hN:NB N D (.slice none 0 0) F W)(hne:R≠N)(hl:s.length<=10000):
  aJ 139 #[aI R,aI N] W λe w'=>dD R N W w'/\AtR R N W.heap.size D F (yt (s.length+1) s) e w':=by
 have o:=h.lt;have Y:=hN.lt;obtain⟨i0,hi,a7,a8,a9⟩:=info_parts zX;go_enter func139,ntmps139;go_wp2_with fail
 go_loopw [] (λwr=>∃(d:List (Bs×Bs)) (rest:Bs) (f:Nat) (L:au),rest.length<f/\rest.length+4*d.length<=s.length/\yt (s.length+1) s=Cn d (yt f rest)/\RD R rest wr/\NB N D L F wr/\wr.ownsRow W.heap.size 145 2 L d.length (bG d)/\dD R N W wr) (λwr=>left R wr)
 case atStart=>exact⟨[],s,s.length+1,.slice none 0 0,aa,aG,(a3I _).symm,h,hN,gp _ _ _ _,dD.of_below (aQ _ _)⟩
 case round=>
  obtain⟨d,rest,f,L,hf,b1,Z,M,w,j,y⟩:=hrel;have HQ:=aA Z;clear Z;obtain⟨f,rfl⟩:∃g,f=g+1:=⟨f-1,aa⟩;have HL:Hid (left R wr=rest.length):=M.left;cases O:[32].isPrefixOf rest with
  |false=>
   have H:Hid (yt (s.length+1) s=some (d,rest)):=(by rw[HQ.out,acn O];simp[Cn]:yt (s.length+1) s=some (d,rest));go_wp2_with(go_at_call 136;refine(ni R _ [32] _ M O).mono ?_;rintro e t ⟨rfl,AA,k⟩);go_ret;exact⟨y.trans (dD.jf k),L,w.keep k hne,.inr ⟨d,rest,H.out,rfl,AA,eX j k o⟩⟩
  |true=>
   have a4:=qL O;have A:=qM R rest [32] wr M O;obtain⟨r,hr⟩:∃r,rest.drop 1=r:=⟨_,rfl⟩;have b2:1+r.length=rest.length:=by rw[<- hr];exact a4
   rw[show rest.drop ([32]:Bs).length=r from hr] at A;have HB:Hid (rH r=none->yt (s.length+1) s=none):=(λI=>by rw[HQ.out,a8b O (by rw[hr];exact I)];rfl:rH r=none->yt (s.length+1) s=none);have HO:Hid (∀a z,rH r=some (a,z)->yt (s.length+1) s=Cn (d++[a]) (yt f z)):=(λa z I=>by rw[HQ.out,aco O (by rw[hr];exact I),a3J]:∀a z,rH r=some (a,z)->yt (s.length+1) s=Cn (d++[a]) (yt f z));clear a4 hr O;have b3:=EM r;by_cases he:lJ r=[]
   .have H:Hid (yt (s.length+1) s=none):=HB.out (a3R he);go_wp2_with(first|(go_at_call 137;refine(sS R r _ _ qN P aa).mono ?_;rintro e w3 ⟨rfl,J,m⟩;have l:=i.keep m hne;have Q:=eX B m o;have S:=K2.trans (dD.jf m);clear qN i B;rw[he])|(go_at_call 138;refine(nS [32,61,34,60,62,47] _).mono ?_;rintro e w2 ⟨rfl,rfl⟩)|(go_at_call 136;refine A.mono ?_;rintro e t ⟨rfl,AA,k⟩;have P:=dN t #[.string ⟨([32,61,34,60,62,47]:Bs).toArray⟩] 9;have qN:=AA.al (.cells #[.string ⟨([32,61,34,60,62,47]:Bs).toArray⟩] 9);have i:=(w.keep k hne).al (.cells #[.string ⟨([32,61,34,60,62,47]:Bs).toArray⟩] 9);have B:=ig (eX j k o) (.cells #[.string ⟨([32,61,34,60,62,47]:Bs).toArray⟩] 9);have K2:=(y.trans (dD.jf k)).trans (dD.of_below (dI t (.cells #[.string ⟨([32,61,34,60,62,47]:Bs).toArray⟩] 9)));clear AA));go_ret;exact⟨S,L,l,.inl ⟨H.out,rfl⟩⟩
   .have b4:(lJ r).isEmpty=false:=by
     cases ht:lJ r with
     |nil=>exact absurd ht he
     |cons _ _=>rfl
    cases T:[61,34].isPrefixOf (yo r) with
    |false=>
     have H:Hid (yt (s.length+1) s=none):=HB.out (acp T);go_wp2_with(first|(have U:=J;go_at_call 136;refine(ni R (yo r) [61,34] _ U T).mono ?_;rintro e w4 ⟨rfl,C,E⟩;have p:=l.keep E hne;have K4:=S.trans (dD.jf E))|(go_at_call 137;refine(sS R r _ _ qN P aa).mono ?_;rintro e w3 ⟨rfl,J,m⟩;have l:=i.keep m hne;have Q:=eX B m o;have S:=K2.trans (dD.jf m);clear qN i B)|(go_at_call 138;refine(nS [32,61,34,60,62,47] _).mono ?_;rintro e w2 ⟨rfl,rfl⟩)|(go_at_call 136;refine A.mono ?_;rintro e t ⟨rfl,AA,k⟩;have P:=dN t #[.string ⟨([32,61,34,60,62,47]:Bs).toArray⟩] 9;have qN:=AA.al (.cells #[.string ⟨([32,61,34,60,62,47]:Bs).toArray⟩] 9);have i:=(w.keep k hne).al (.cells #[.string ⟨([32,61,34,60,62,47]:Bs).toArray⟩] 9);have B:=ig (eX j k o) (.cells #[.string ⟨([32,61,34,60,62,47]:Bs).toArray⟩] 9);have K2:=(y.trans (dD.jf k)).trans (dD.of_below (dI t (.cells #[.string ⟨([32,61,34,60,62,47]:Bs).toArray⟩] 9)));clear AA));go_ret;exact⟨K4,L,p,.inl ⟨H.out,rfl⟩⟩
    |true=>
     have a5:=qL T;have V:=λW h=>qM R (yo r) [61,34] W h T;obtain⟨x,hx⟩:∃x,(yo r).drop 2=x:=⟨_,rfl⟩;have b5:2+x.length=(yo r).length:=by rw[<- hx];exact a5
     rw[show(yo r).drop ([61,34]:Bs).length=x from hx] at V;have HV:Hid (Aw (x.length+1) x=none->rH r=none):=(λh=>acr he T (by rw[hx];exact h):Aw (x.length+1) x=none->rH r=none);have HW:Hid (∀v z,Aw (x.length+1) x=some (v,z)->rH r=some ((lJ r,v),z)):=(λv z h=>a8c he T (by rw[hx];exact h):∀v z,Aw (x.length+1) x=some (v,z)->rH r=some ((lJ r,v),z));clear a5 hx T;cases K:Aw (x.length+1) x with
     |none=>
      have H:Hid (yt (s.length+1) s=none):=HB.out (HV.out K);have VL:∀W,RD R x W->aJ 201 #[aI R] W λe w'=>dR R W w'/\e=.returned (.tuple #[.string ⟨#[]⟩,.bool false]):=λW h=>(Le R _ W h aa).mono (λe w' ⟨I,n⟩=>⟨I,by
       rcases n with n|⟨c,r,n, -⟩
       .exact n.2
       .rw[K] at n;cases n⟩)
      clear K;go_wp2_with(first|(go_at_call 201;refine(VL _ C).mono ?_;rintro e w5 ⟨X,rfl⟩;have Ns:=p.keep X hne;have K5:=K4.trans (dD.jf X))|(have U:=J;go_at_call 136;refine(V _ U).mono ?_;rintro e w4 ⟨rfl,C,E⟩;have p:=l.keep E hne;have TC:=eX Q E o;have K4:=S.trans (dD.jf E);clear U J l Q)|(go_at_call 137;refine(sS R r _ _ qN P aa).mono ?_;rintro e w3 ⟨rfl,J,m⟩;have l:=i.keep m hne;have Q:=eX B m o;have S:=K2.trans (dD.jf m);clear qN i B)|(go_at_call 138;refine(nS [32,61,34,60,62,47] _).mono ?_;rintro e w2 ⟨rfl,rfl⟩)|(go_at_call 136;refine A.mono ?_;rintro e t ⟨rfl,AA,k⟩;have P:=dN t #[.string ⟨([32,61,34,60,62,47]:Bs).toArray⟩] 9;have qN:=AA.al (.cells #[.string ⟨([32,61,34,60,62,47]:Bs).toArray⟩] 9);have i:=(w.keep k hne).al (.cells #[.string ⟨([32,61,34,60,62,47]:Bs).toArray⟩] 9);have B:=ig (eX j k o) (.cells #[.string ⟨([32,61,34,60,62,47]:Bs).toArray⟩] 9);have K2:=(y.trans (dD.jf k)).trans (dD.of_below (dI t (.cells #[.string ⟨([32,61,34,60,62,47]:Bs).toArray⟩] 9)));clear AA));go_ret;exact⟨K5,L,Ns,.inl ⟨H.out,rfl⟩⟩
     |some q=>
      obtain⟨v,z⟩:=q;have b6:v.length+z.length+1<=x.length:=Nn _ _ _ K;have H:Hid (yt (s.length+1) s=Cn (d++[(lJ r,v)]) (yt f z)):=HO.out _ _ (HW.out _ _ K);have VL:∀W,RD R x W->aJ 201 #[aI R] W λe w'=>dR R W w'/\e=.returned (.tuple #[.string ⟨v.toArray⟩,.bool true])/\RD R z w':=λW h=>(Le R _ W h aa).mono (λe w' ⟨I,n⟩=>⟨I,by
       rcases n with n|⟨v',z',n,h3,h4⟩
       .rw[K] at n;cases n.1
       .rw[K] at n;cases n;exact⟨h3,h4⟩⟩)
      clear K;obtain⟨oA,b7,rfl⟩:=uG j;go_upto_region 8 with(first|(go_at_call 201;refine(VL _ C).mono ?_;rintro e w5 ⟨X,rfl,RH⟩;have Ns:=p.keep X hne;have vv:=eX TC X o;have K5:=K4.trans (dD.jf X);have n1:=Ns.c1;clear C p TC)|(have U:=J;go_at_call 136;refine(V _ U).mono ?_;rintro e w4 ⟨rfl,C,E⟩;have p:=l.keep E hne;have TC:=eX Q E o;have K4:=S.trans (dD.jf E);clear U J l Q)|(go_at_call 137;refine(sS R r _ _ qN P aa).mono ?_;rintro e w3 ⟨rfl,J,m⟩;have l:=i.keep m hne;have Q:=eX B m o;have S:=K2.trans (dD.jf m);clear qN i B)|(go_at_call 138;refine(nS [32,61,34,60,62,47] _).mono ?_;rintro e w2 ⟨rfl,rfl⟩)|(go_at_call 136;refine A.mono ?_;rintro e t ⟨rfl,AA,k⟩;have P:=dN t #[.string ⟨([32,61,34,60,62,47]:Bs).toArray⟩] 9;have qN:=AA.al (.cells #[.string ⟨([32,61,34,60,62,47]:Bs).toArray⟩] 9);have i:=(w.keep k hne).al (.cells #[.string ⟨([32,61,34,60,62,47]:Bs).toArray⟩] 9);have B:=ig (eX j k o) (.cells #[.string ⟨([32,61,34,60,62,47]:Bs).toArray⟩] 9);have K2:=(y.trans (dD.jf k)).trans (dD.of_below (dI t (.cells #[.string ⟨([32,61,34,60,62,47]:Bs).toArray⟩] 9)));clear AA));go_wp2_with(at_builtin;refine wpList_append_own _ rfl _ _ 47 rfl W.heap.size 145 i0 (.agg #[.string ⟨#[]⟩,.string ⟨#[]⟩]) 2 32 underlying47 hi a7 a8 a9 rfl aC _ _ _ rfl (ig vv _) ⟨w5.heap.size,0,none⟩ 1 1 [.string ⟨(lJ r).toArray⟩,.string ⟨v.toArray⟩] rfl rfl (ZR w5 _ _ _) (λu hu=>by simp at hu;rcases hu with rfl|rfl<;>rfl) (by rw[dh];omega) aa (by have:=K5.size;simp;omega) ?_;intro v7 w7 kz l9 _;have NJ:=(Ns.al _).grown l9 (own_ne vv Y);have m1:=NJ.c1;have m2:=NJ.eY 1;obtain⟨o7,xJ,rfl⟩:=uG kz);have b0:=(RH.al (.cells #[.string ⟨(lJ r).toArray⟩,.string ⟨v.toArray⟩] 145)).grown l9 (own_ne vv o);have K7:=(K5.trans (dD.of_below (dI w5 (.cells #[.string ⟨(lJ r).toArray⟩,.string ⟨v.toArray⟩] 145)))).grown l9 (λb hb=>(vv.lt b hb).1)
      have ZH:=eX kz (dR.set N 1 w7 (.slice o7 (d.length+1) xJ)) Y;have a6:=b0.xN (N:=N) 1 (.slice o7 (d.length+1) xJ) hne
      go_roundw
      case rel=>exact⟨d++[(lJ r,v)],z,f,.slice o7 (d.length+1) xJ,aa,aX,H.out,a6,NJ.set1 _,by rw[Dc,dJ];exact ZH,K7.trans (dD.xN _ _ _)⟩
      case measure=>have I:=HL.out;have n:=a6.left;omega
end
section
open Go.RowKit
def ElR (R B:Nat)(o:Option (Nd×Bs))(e:Ending)(w:ah):Prop:=∃(a:aM) (c:Option Addr) (d f:Nat) (g:Option Addr) (h i:Nat),(o=none/\e=ax (aF #[.agg #[ak a,aj c d f,aj g h i],.bool false]))\/∃(n:Nd) (r:Bs),o=some (n,r)/\e=ax (aF #[.agg #[ak a,aj c d f,aj g h i],.bool true])/\RD R r w/\sQ (λb=>B<=b) w (ak a) (aj c d f) (aj g h i) n
def El (R f:Nat):Prop:=∀(s:Bs) (W:ah),s.length<f->s.length<=10000->RD R s W->
 aJ 82 #[aI R] W λe a=>dR R W a/\ElR R W.heap.size (oF f s) e a
theorem Nt (s p:Bs)(w:ah):aJ 202 #[ak ⟨s.toArray⟩,ak ⟨p.toArray⟩] w λe w'=>e=ax (.bool (p.isPrefixOf s))/\w'=w:=by
 have:=Tryz.strings_HasPrefix ⟨s.toArray⟩ ⟨p.toArray⟩ w;exact this
theorem jE (s p:Bs)(b:Bool)(w:ah)(h:p.isPrefixOf s=b):aJ 202 #[ak ⟨s.toArray⟩,ak ⟨p.toArray⟩] w λe w'=>e=ax (.bool b)/\w'=w:=by
 rw[<- h];exact Nt s p w
theorem Xp {f:Nat}{s:Bs}(h:¬([60].isPrefixOf s=true/\[60,47].isPrefixOf s=false)):zy el (f+1) s=some ([],s):=by rw[zy,if_neg h]
theorem a8f {f:Nat}{s:Bs}(h:[60].isPrefixOf s=true/\[60,47].isPrefixOf s=false)(a:el s=none):zy el (f+1) s=none:=by rw[zy,if_pos h,a]
theorem acs {f:Nat}{s r:Bs}{k:Nd}(h:[60].isPrefixOf s=true/\[60,47].isPrefixOf s=false)(a:el s=some (k,r)):zy el (f+1) s=zh [k] (zy el f r):=by rw[zy,if_pos h,a]
theorem nodeInfo:(prog.info? 50).map (λi=>(i.zero,i.size,i.bytes))=some (some (.agg #[ak ⟨#[]⟩,aj none 0 0,aj none 0 0]),3,64):=az
theorem tq {w:ah}{B k n g a:Nat}{e:TypeId}{d:List au}(h:w.ownsRow B e k (aj (some ⟨g,0,none⟩) n a) n d)(j:Nat)(v:au):(w.setCell ⟨g,j,none⟩ v).ownsRow B e k (aj (some ⟨g,0,none⟩) n a) n (d.set j v):=by
 obtain⟨i,c⟩:=h;refine⟨by rw[List.length_set];exact i,?_⟩;rcases c with⟨c,_⟩|⟨t,f,b,l,m,o,p,q,r,s⟩
 .cases c
 .cases l;refine .inr ⟨g,a,b.setIfInBounds j v,rfl,m,heap_setCell_same w g j b e v o,p,q,by simpa using r,?_⟩;rw[<- s,Array.toList_setIfInBounds,List.take_set]
theorem a3W {w:ah}{B k n g a:Nat}{e:TypeId}{d:List au}(h:w.ownsRow B e k (aj (some ⟨g,0,none⟩) n a) n d)(j:Nat):w.frozen? ⟨g,j,none⟩=false:=by
 rcases h.2 with⟨f,_⟩|⟨m,c,b,i,o,l, -⟩
 .cases f
 .cases i;exact frozen_of_row w g j b e l
theorem Iy {w:ah}{B k n g a:Nat}{e:TypeId}{b:List au}(h:w.ownsRow B e k (aj (some ⟨g,0,none⟩) n a) n b){j:Nat}{u:au}(c:b[j]? =some u):w.cell? (aH g j)=some u:=by
 obtain⟨i,d,f⟩:=dO h j u c;cases d;exact f
theorem acu (K:List V3)(a b c:au):(fG K++[a,b,c])[K.length*3]? =some a/\(fG K++[a,b,c])[K.length*3+1]? =some b/\(fG K++[a,b,c])[K.length*3+2]? =some c:=by
 have h:(fG K).length=K.length*3:=by
  induction K with
  |nil=>rfl
  |cons x r d=>simp[fG,d];omega
 grind
theorem Iz:∀K:List V3,(fG K).length=K.length*3
 |[]=>rfl
 |x::r=>by simp[fG,Iz r];omega
def KdR (R N B:Nat)(D g:au)(o:Option (List Nd×Bs))(e:Ending)(w:ah):Prop:=∃(a:Option Addr) (c d:Nat),NB N D g (aj a c d) w/\((o=none/\e=ax (.bool false))\/∃(f:List Nd) (r:Bs) (K:List V3),o=some (f,r)/\e=ax (.bool true)/\RD R r w/\w.ownsRow B 50 3 (aj a c d) K.length (fG K)/\KR (λb=>B<=b) w K f)
theorem agE (K:List V3)(x y z a b c:au):(((fG K++[x,y,z]).set (K.length*3) a).set (K.length*3+1) b).set (K.length*3+2) c=fG K++[a,b,c]:=by
 have h:=Iz K;rw[List.set_append_right _ _ aa,List.set_append_right _ _ aa,List.set_append_right _ _ aa,h,Nat.sub_self,Nat.add_sub_cancel_left,Nat.add_sub_cancel_left];rfl
theorem dD.ZT {r n g:Nat}{A B:ah}(h:dD r n A B)(i:Nat)(v:au)(a:A.heap.size<=g):dD r n A (B.setCell ⟨g,i,none⟩ v):=
 h.grown (dR.set g i B v).grown (λb c=>by cases c;exact a)
def Vh (N g q d n:Nat)(a b c:au)(w V:ah):Prop:=V=(((w.setCell ⟨g,q,none⟩ a).setCell ⟨g,q+1,none⟩ b).setCell ⟨g,q+2,none⟩ c).setCell ⟨N,2,none⟩ (aj (some ⟨g,0,none⟩) n d)\/V=(((w.setCell ⟨N,2,none⟩ (aj (some ⟨g,0,none⟩) n d)).setCell ⟨g,q,none⟩ a).setCell ⟨g,q+1,none⟩ b).setCell ⟨g,q+2,none⟩ c
theorem a3X {R N g q e n:Nat}{a b c:au}{w V:ah}{s:Bs}(h:Vh N g q e n a b c w V)(f:RD R s w)(i:R≠N)(d:R≠g):RD R s V:=by
 rcases h with rfl|rfl
 .exact(((f.xN _ _ d).xN _ _ d).xN _ _ d).xN _ _ i
 .exact(((f.xN _ _ i).xN _ _ d).xN _ _ d).xN _ _ d
theorem acv {N g q e n:Nat}{a b c f:au}{w V:ah}(h:Vh N g q e n a b c w V)(i:NB N D f F w)(d:g≠N):NB N D f (aj (some ⟨g,0,none⟩) n e) V:=by
 rcases h with rfl|rfl
 .exact(((i.keep (dR.set g _ _ _) d).keep (dR.set g _ _ _) d).keep (dR.set g _ _ _) d).set2 _
 .exact(((i.set2 _).keep (dR.set g _ _ _) d).keep (dR.set g _ _ _) d).keep (dR.set g _ _ _) d
theorem a8g {N g d B:Nat}{K:List V3}{a b c x y z:au}{w V:ah}(h:Vh N g (K.length*3) d (K.length+1) a b c w V)(e:w.ownsRow B 50 3 (aj (some ⟨g,0,none⟩) (K.length+1) d) (K.length+1) (fG K++[x,y,z]))(f:N<B):
  V.ownsRow B 50 3 (aj (some ⟨g,0,none⟩) (K.length+1) d) (K++[(a,b,c)]).length (fG (K++[(a,b,c)])):=by
 rw[Dy,dJ];show V.ownsRow B _ 3 _ (K.length+1) (fG K++[a,b,c]);rw[<- agE K x y z a b c];rcases h with rfl|rfl
 .exact eX (tq (tq (tq e _ _) _ _) _ _) (dR.set N _ _ _) f
 .exact tq (tq (tq (eX e (dR.set N _ _ _) f) _ _) _ _) _ _
theorem a3Y {R N g q e n:Nat}{a b c:au}{A w V:ah}(h:Vh N g q e n a b c w V)(f:dD R N A w)(d:A.heap.size<=g):dD R N A V:=by
 rcases h with rfl|rfl
 .exact(((f.ZT _ _ d).ZT _ _ d).ZT _ _ d).trans (dD.xN _ _ _)
 .exact(((f.trans (dD.xN _ _ _)).ZT _ _ d).ZT _ _ d).ZT _ _ d
theorem a8h {N g q e n:Nat}{a b c:au}{w V:ah}(h:Vh N g q e n a b c w V)(k:Nat)(f:k≠N)(d:k≠g):V.heap[k]? =w.heap[k]? :=by
 rcases h with rfl|rfl
 .rw[bY _ _ _ k f,bY _ _ _ k d,bY _ _ _ k d,bY _ _ _ k d]
 .rw[bY _ _ _ k d,bY _ _ _ k d,bY _ _ _ k d,bY _ _ _ k f]
theorem a3Z {R N f m A g n:Nat}{o:Option Addr}{W u d B V:ah}{K:List V3}{p:List Nd}{kid:Nd}{s r:Bs}{M a b c:au}{l:Obj}{x y z:au}{cs:Array au}{v:TypeId}
  (hne:R≠N) (hR:R<W.heap.size) (H:N<W.heap.size) (O:r.length<m) (P:r.length+(p.length+1)<=s.length)
  (HZ:zy (oF f) (s.length+1) s=zh (p++[kid]) (zy (oF f) m r))
  (i:u.ownsRow W.heap.size 50 3 (aj o K.length n) K.length (fG K))
  (Q:KR (λb=>W.heap.size<=b/\(Value.slice o K.length n).ownBlock≠some b) u K p)
  (I:dD R N W u) (S:NB N D M (aj o K.length n) u) (L:dR R u d) (qN:RD R r d) (T:sQ (λb=>u.heap.size<=b) d a b c kid)
  (J:((d.alloc l).alloc (ai cs v)).drew.grownBy B (Value.slice o K.length n).ownBlock)
  (vv:B.ownsRow W.heap.size 50 3 (aj (some ⟨g,0,none⟩) (K.length+1) A) (K.length+1) (fG K++[x,y,z]))
  (a4:(Value.slice o K.length n).ownBlock=some g\/g=((d.alloc l).alloc (ai cs v)).drew.heap.size)
  (F:Vh N g (K.length*3) A (K.length+1) a b c B V):
  RD R r V/\∃(j:List Nd) (U:List V3) (h:Bs) (m':Nat) (C:au),h.length<m'/\h.length+j.length<=s.length/\zy (oF f) (s.length+1) s=zh j (zy (oF f) m' h)/\RD R h V/\NB N D M C V/\V.ownsRow W.heap.size 50 3 C U.length (fG U)/\KR (λb=>W.heap.size<=b/\C.ownBlock≠some b) V U j/\dD R N W V:=by
 have q0:=(vv.lt g rfl).1;have Sl:=I.size;have a5:=L.size;have X:∀q,(Value.slice o K.length n).ownBlock=some q->q<u.heap.size:=λq k=>(i.lt q k).2;have eU:∀q,q<d.heap.size->((d.alloc l).alloc (ai cs v)).drew.heap[q]? =d.heap[q]? :=λq k=>((dI (d.alloc l) (ai cs v)).block q (by have:=(dI d l).size;omega)).trans ((dI d l).block q k);have sU:d.heap.size+2=((d.alloc l).alloc (ai cs v)).drew.heap.size:=by
  show _=((d.alloc l).alloc (ai cs v)).heap.size;simp
 have Y:∀q,q<d.heap.size->(Value.slice o K.length n).ownBlock≠some q->B.heap[q]? =d.heap[q]? :=λq k Z=>(J.block q aa (λe=>Z e.symm)).trans (eU q k);have eV:∀q,q<d.heap.size->(Value.slice o K.length n).ownBlock≠some q->q≠N->V.heap[q]? =d.heap[q]? /\ q≠g:=λq k Z hN=>by
  have hg:q≠g:=by grind
  exact⟨(a8h F q hN hg).trans (Y q k Z),hg⟩
 have RH:RD R r B:=by
  unfold RD at qN⊢;rw[Y R (aY qN) (λe=>own_ne i hR e.symm)];exact qN
 have Ns:NB N D M (aj o K.length n) B:=by
  have t:=S.keep L hne;unfold NB at t⊢;rw[Y N (aY t) (λe=>own_ne i H e.symm)];exact t
 have k5:dD R N W B:=by
  have t:dD R N W ((d.alloc l).alloc (ai cs v)).drew:=(((I.trans (dD.jf L)).trans (dD.of_below (dI d l))).trans (dD.of_below (dI _ (ai cs v)))).trans (dD.of_below ⟨rfl,rfl,rfl,Nat.le_refl _,λ_ _=>rfl⟩);exact t.grown J (λb hb=>(i.lt b hb).1)
 refine⟨a3X F RH hne aa,p++[kid],K++[(a,b,c)],r,m,aj (some ⟨g,0,none⟩) (K.length+1) A,O,by simpa using P,HZ,a3X F RH hne aa,acv F Ns aa,a8g F vv H,?_,a3Y F k5 q0⟩;refine KR.snoc (KR.turn (w:=u) (λq k E=>?_) Q) (sQ.turn (w:=d) (λq k E=>?_) kid T)
 .obtain⟨h1,t⟩:=eV q aa k.2 aa;refine⟨⟨k.1,λe=>t (by cases e;rfl)⟩,h1.trans (L.block q E aa)⟩
 .obtain⟨h1,t⟩:=eV q E (λe=>by have:=X q e;omega) aa;exact⟨⟨aa,λe=>t (by cases e;rfl)⟩,h1⟩
set_option maxRecDepth 20000
theorem a8i (R N f:Nat)(IH:El R f)(s:Bs)(D c1:au)(W:ah)(h:RD R s W)(hN:NB N D c1 (aj none 0 0) W)(hne:R≠N)(hl:s.length<=10000)(hf:s.length<f):
  aJ 140 #[aI R,aI N] W λe w'=>dD R N W w'/\KdR R N W.heap.size D c1 (zy (oF f) (s.length+1) s) e w':=by
 have hR:=h.lt;have S:=hN.lt;obtain⟨i0,hi,a8,a9,b0⟩:=info_parts nodeInfo;go_enter func140,ntmps140;go_wp2_with fail
 go_loopw [] (λwr=>∃(a:List Nd) (K:List V3) (rest:Bs) (m:Nat) (vK:au),rest.length<m/\rest.length+a.length<=s.length/\zy (oF f) (s.length+1) s=zh a (zy (oF f) m rest)/\RD R rest wr/\NB N D c1 vK wr/\wr.ownsRow W.heap.size 50 3 vK K.length (fG K)/\KR (λb=>W.heap.size<=b/\vK.ownBlock≠some b) wr K a/\dD R N W wr) (λwr=>left R wr)
 case atStart=>exact⟨[],[],s,s.length+1,aj none 0 0,aa,aG,(a3K _).symm,h,hN,gp _ _ _ _,trivial,dD.of_below (aQ _ _)⟩
 case round=>
  obtain⟨a,K,rest,m,vK,hm,c2,T,x,y,c,X,z⟩:=hrel;have HQ:=aA T;have F:=aA X;clear T X;obtain⟨Y,Z,rfl⟩:=uG c;obtain⟨m,rfl⟩:∃g,m=g+1:=⟨m-1,aa⟩;have c3:=z.size;have HL:Hid (left R wr=rest.length):=x.left;have cR:=x.cell;have a4:Hid (KR (λb=>W.heap.size<=b) wr K a):=KR.turn (λb hb _=>⟨hb.1,rfl⟩) F.out;cases H:[60].isPrefixOf rest with
  |false=>
   have I:Hid (zy (oF f) (s.length+1) s=some (a,rest)):=(by rw[HQ.out,Xp (by rw[H];simp)];simp[zh]:zy (oF f) (s.length+1) s=some (a,rest));go_wp2_with(go_at_call 202;refine(jE rest [60] false _ H).mono ?_;rintro e J ⟨rfl,rfl⟩);go_ret;exact⟨z,Y,_,Z,y,.inr ⟨a,rest,K,I.out,rfl,x,c,a4.out⟩⟩
  |true=>
   cases P:[60,47].isPrefixOf rest with
   |true=>
    have I:Hid (zy (oF f) (s.length+1) s=some (a,rest)):=(by rw[HQ.out,Xp (by rw[P];simp)];simp[zh]:zy (oF f) (s.length+1) s=some (a,rest));go_wp2_with(go_at_call 202;first|(refine(jE rest [60,47] true _ P).mono ?_;rintro e J ⟨rfl,rfl⟩)|(refine(jE rest [60] true _ H).mono ?_;rintro e J ⟨rfl,rfl⟩));go_ret;exact⟨z,Y,_,Z,y,.inr ⟨a,rest,K,I.out,rfl,x,c,a4.out⟩⟩
   |false=>
    have HE:=IH rest wr aa aa x;cases B:oF f rest with
    |none=>
     have I:Hid (zy (oF f) (s.length+1) s=none):=(by rw[HQ.out,a8f ⟨H,P⟩ B];rfl:zy (oF f) (s.length+1) s=none);have L:=HE.mono (R':=λe w'=>dR R wr w'/\∃(d:aM) (i:Option Addr) (j l:Nat) (q:Option Addr) (t v:Nat),e=ax (aF #[.agg #[ak d,aj i j l,aj q t v],.bool false])) (λe w' h=>by
      refine⟨h.1,?_⟩;obtain⟨d,i,j,l,q,t,v,A|⟨n,r,A, -⟩⟩:=h.2
      .exact⟨d,i,j,l,q,t,v,A.2⟩
      .rw[B] at A;cases A)
     clear HE B;go_wp2_with(first|(go_at_call 82;refine L.mono ?_;rintro e C ⟨E,d,i,j,l,q,t,v,rfl⟩)|(go_at_call 202;first|(refine(jE rest [60,47] false _ P).mono ?_;rintro e J ⟨rfl,rfl⟩)|(refine(jE rest [60] true _ H).mono ?_;rintro e J ⟨rfl,rfl⟩)));go_ret;exact⟨(z.trans (dD.jf E)).trans (dD.of_below (dI C _)),Y,_,Z,(y.keep E hne).al _,.inl ⟨I.out,rfl⟩⟩
    |some p=>
     obtain⟨kid,r⟩:=p;have b1:=Xk _ _ _ B;simp only at b1;have I:Hid (zy (oF f) (s.length+1) s=zh (a++[kid]) (zy (oF f) m r)):=(by rw[HQ.out,acs ⟨H,P⟩ B,a3L]:zy (oF f) (s.length+1) s=zh (a++[kid]) (zy (oF f) m r));have L:=HE.mono (R':=λe w'=>dR R wr w'/\∃(d:aM) (i:Option Addr) (j l:Nat) (q:Option Addr) (t v:Nat),e=ax (aF #[.agg #[ak d,aj i j l,aj q t v],.bool true])/\RD R r w'/\sQ (λb=>wr.heap.size<=b) w' (ak d) (aj i j l) (aj q t v) kid) (λe w' h=>by
      refine⟨h.1,?_⟩;obtain⟨d,i,j,l,q,t,v,A|⟨n,r',A,h3,h4,h5⟩⟩:=h.2
      .rw[B] at A;cases A.1
      .rw[B] at A;cases A;exact⟨d,i,j,l,q,t,v,h3,h4,h5⟩)
     clear HE B;go_upto_region 5 with(first|(go_at_call 82;refine L.mono ?_;rintro e C ⟨E,d,i,j,l,q,t,v,rfl,qN,b2⟩)|(go_at_call 202;first|(refine(jE rest [60,47] false _ P).mono ?_;rintro e J ⟨rfl,rfl⟩)|(refine(jE rest [60] true _ H).mono ?_;rintro e J ⟨rfl,rfl⟩)));have M:=(y.keep E hne).al (ai #[ak d,aj i j l,aj q t v] 50);have b3:=qN.al (ai #[ak d,aj i j l,aj q t v] 50);have O:=ig (eX c E hR) (ai #[ak d,aj i j l,aj q t v] 50);have w:=dN C #[ak d,aj i j l,aj q t v] 50;have a5:C.heap.size<(C.alloc (ai #[ak d,aj i j l,aj q t v] 50)).heap.size:=aY w;have b4:∀b,(Value.slice Y K.length Z).ownBlock=some b->b<C.heap.size:=λb hb=>((eX c E hR).lt b hb).2;have b5:=E.size;obtain⟨U,hU⟩:∃U,C.alloc (ai #[ak d,aj i j l,aj q t v] 50)=U:=⟨_,rfl⟩;rw[hU] at M b3 O w a5⊢;obtain⟨KB,b6⟩:∃KB,C.heap.size=KB:=⟨_,rfl⟩;rw[b6] at w a5 b4 b5⊢;have x0:=aO w 0 (ak d) rfl;have x1:=aO w 1 (aj i j l) rfl;have x2:=aO w 2 (aj q t v) rfl;have y2:=M.c2;have c4:=λo=>dQ o y2;have H0:=dN U #[ak ⟨#[]⟩,aj none 0 0,aj none 0 0] 50;have zU:W.heap.size<=U.heap.size:=aa;have c5:(K.length:Int)<(K.length:Int)+1:=aa;have c6:(K.length:Int)<=10000:=by have:=F.out.len;omega
     have c7:=λo=>dQ o x0;have c8:=λo=>dQ o x1;have c9:=λo=>dQ o x2
     go_region_law ((refine step_append_lies _ rfl (.tmp 30) (.tmp 33) 48 rfl W.heap.size 50 i0 (.agg #[ak ⟨#[]⟩,aj none 0 0,aj none 0 0]) 3 64 underlying48 hi a8 a9 b0 rfl aC (aj Y K.length Z) K.length (fG K) rfl (ig O _) ⟨U.heap.size,0,none⟩ 1 1 [ak ⟨#[]⟩,aj none 0 0,aj none 0 0] rfl rfl (World.news_of_block H0) (λu hu=>by simp at hu;rcases hu with rfl|rfl|rfl<;>rfl) aC (by rw[dh];omega) aa aX _ rfl ?_;intro g b7 w5 Q a6 b8 d0;have g0:=Iy Q (acu K _ _ _).1;have g1:=Iy Q (acu K _ _ _).2.1;have g2:=Iy Q (acu K _ _ _).2.2;have gf:=a3W Q;have q0:=(Q.lt g rfl).1;have q1:¬N=g:=aa;have q2:¬g=N:=aa;have Ns:=NB.grown (k:=a6) (h:=by exact M.al _) (hne:=own_ne O S);have m2:=Ns.c2;have mf:=Ns.eY))
     all_goals(
      subst hU;have a7:=λV hV=>a3Z (V:=V) hne hR S (show r.length<m by omega) (show r.length+(a.length+1)<=s.length by omega) I.out c F.out z y E qN b2 a6 Q b8 hV;have b9:∀V,Vh N g (K.length*3) b7 (K.length+1) (ak d) (aj i j l) (aj q t v) w5 V->left R V<left R J:=λV hV=>by have h1:=HL.out;have A:=(a7 V hV).1.left;omega
      go_wp2_with fail
      go_roundw
      case rel=>exact(a7 _ (by first|exact Or.inl (by with_reducible rfl)|exact Or.inr (by with_reducible rfl))).2
      case measure=>exact b9 _ (by first|exact Or.inl (by with_reducible rfl)|exact Or.inr (by with_reducible rfl)))
theorem NB.rV {Z R N:Nat}{a:au}{w w':ah}(h:NB Z D a F w)(k:dD R N w w')(b:Z≠R)(c:Z≠N):NB Z D a F w':=by
 have:=h.lt;unfold NB at h⊢;rw[k.block Z this b c];exact h
theorem Lf {R N B k n:Nat}{e:TypeId}{v:au}{d:List au}{w w':ah}(h:w.ownsRow B e k v n d)(f:dD R N w w')(l:R<B)(m:N<B):w'.ownsRow B e k v n d:=by
 refine⟨h.1,?_⟩;rcases h.2 with i|⟨g,b,c,rfl,j,a,rest⟩
 .exact .inl i
 .refine .inr ⟨g,b,c,rfl,j,?_,rest⟩;rw[f.block g (aY a) aa aa];exact a
theorem ZU {B B' k n:Nat}{e:TypeId}{v:au}{c:List au}{w:ah}(h:w.ownsRow B e k v n c)(i:B'<=B):w.ownsRow B' e k v n c:=by
 refine⟨h.1,?_⟩;rcases h.2 with d|⟨g,a,b,f,j,rest⟩
 .exact .inl d
 .exact .inr ⟨g,a,b,f,aa,rest⟩
theorem dR.acy {R Z:Nat}{W w:ah}(h:dR R W w)(a:W.heap.size<=Z)(i:Nat)(v:au):dR R W (w.setCell ⟨Z,i,none⟩ v):=
 h.low ((aQ _ w).setCell (p:=⟨Z,i,none⟩) a v)
abbrev a4a (Z:Nat)(a b c:au)(w:ah):ah:=((w.setCell ⟨Z,0,none⟩ a).setCell ⟨Z,1,none⟩ b).setCell ⟨Z,2,none⟩ c
theorem wP {R Z:Nat}{W w:ah}(h:dR R W w)(d:W.heap.size<=Z)(a b c:au):dR R W (a4a Z a b c w):=((h.acy d _ _).acy d _ _).acy d _ _
theorem a4b {R Z U:Nat}{W w:ah}{nm:Bs}{d e:au}{ats:List (Bs×Bs)}{K:List V3}{h:List Nd}{z:Bs}(j:nm.length<=maxLen)(k:∀x∈ats,x.1.length<=maxLen/\x.2.length<=maxLen)
  (i:w.ownsRow U 145 2 d ats.length (bG ats)) (c:w.ownsRow U 50 3 e K.length (fG K)) (l:KR (λb=>U<=b) w K h) (rd:RD R z w) (m:W.heap.size<=Z) (n:Z<U) (g:R≠Z):
  RD R z (a4a Z (ak ⟨nm.toArray⟩) d e w)/\sQ (λb=>W.heap.size<=b) (a4a Z (ak ⟨nm.toArray⟩) d e w) (ak ⟨nm.toArray⟩) d e (.mk nm ats h):=by
 refine⟨((rd.xN _ _ g).xN _ _ g).xN _ _ g,?_⟩;refine sQ.turn (Q:=λb=>U<=b) (w:=w) (λb f _=>⟨aa,?_⟩) _ (sQ.make j (Co.turn (Co.a3N i k) (λb f _=>⟨(i.lt b f).1,rfl⟩)) c l (λb f=>(c.lt b f).1));have a:b≠Z:=aa;rw[bY _ _ _ b a,bY _ _ _ b a,bY _ _ _ b a]
theorem acz {f:Nat}{s:Bs}(h:[60].isPrefixOf s=false):oF (f+1) s=none:=by rw[oF,if_neg (by rw[h];simp)]
theorem a8k {f:Nat}{s r:Bs}(h:[60].isPrefixOf s=true)(a:s.drop 1=r)(b:lJ r=[]):oF (f+1) s=none:=by rw[oF,if_pos h,a,if_pos b]
theorem a8l {f:Nat}{s r:Bs}(h:[60].isPrefixOf s=true)(a:s.drop 1=r)(b:yt ((yo r).length+1) (yo r)=none):oF (f+1) s=none:=by
 rw[oF,if_pos h,a,b];split<;>rfl
theorem a8m {f:Nat}{s r y:Bs}{ats:List (Bs×Bs)}(h:[60].isPrefixOf s=true)(a:s.drop 1=r)(b:lJ r≠[])(c:yt ((yo r).length+1) (yo r)=some (ats,y))(d:[47,62].isPrefixOf y=true):oF (f+1) s=some (.mk (lJ r) ats [],y.drop 2):=by
 rw[oF,if_pos h,a,if_neg b,c];grind
theorem a8n {f:Nat}{s r y:Bs}{ats:List (Bs×Bs)}(h:[60].isPrefixOf s=true)(a:s.drop 1=r)(b:lJ r≠[])(c:yt ((yo r).length+1) (yo r)=some (ats,y))(d:[47,62].isPrefixOf y=false)(e:[62].isPrefixOf y=false):oF (f+1) s=none:=by
 rw[oF,if_pos h,a,if_neg b,c];grind
theorem a4c {f:Nat}{s r y x:Bs}{ats:List (Bs×Bs)}(h:[60].isPrefixOf s=true)(a:s.drop 1=r)(b:lJ r≠[])(c:yt ((yo r).length+1) (yo r)=some (ats,y))(d:[47,62].isPrefixOf y=false)(e:[62].isPrefixOf y=true)(g:y.drop 1=x):
  oF (f+1) s=match zy (oF f) (x.length+1) x with
   |none=>none
   |some k=>if(Iu (lJ r)).isPrefixOf k.2=true then some (.mk (lJ r) ats k.1,k.2.drop (Iu (lJ r)).length) else none:=by
 rw[oF,if_pos h,a,if_neg b,c];grind
theorem Nu (R f:Nat)(IH:El R f):El R (f+1):=by
 intro s W hf hl h;have hR:=h.lt;have b5:=dN W #[ak ⟨#[]⟩,aj none 0 0,aj none 0 0] 50;have a4:=h.al (ai #[ak ⟨#[]⟩,aj none 0 0,aj none 0 0] 50);have k0:dR R W (W.alloc (ai #[ak ⟨#[]⟩,aj none 0 0,aj none 0 0] 50)):=dR.of_below (dI W _);obtain⟨V0,NF⟩:∃V,W.alloc (ai #[ak ⟨#[]⟩,aj none 0 0,aj none 0 0] 50)=V:=⟨_,rfl⟩;have a7:NB W.heap.size (ak ⟨#[]⟩) (aj none 0 0) (aj none 0 0) V0:=by rw[<- NF];exact b5
 have A:R≠W.heap.size:=aa;rw[NF] at a4 k0;clear b5;cases hp:[60].isPrefixOf s with
 |false=>
  have B:Hid (oF (f+1) s=none):=acz hp;go_enter func82,ntmps82;go_upto_region 1 with fail;clear NF;go_wp2_with(go_at_call 136;refine(ni R s [60] _ a4 hp).mono ?_;rintro e w1 ⟨rfl,AA,k1⟩;have a5:=a7.keep k1 A;have C:=a5.c0;have D:=a5.c1;have E:=a5.c2;have af:=a5.eY);refine bodyPost_ret (v:=aF #[.agg #[ak ⟨#[]⟩,aj none 0 0,aj none 0 0],.bool false]) (by simp[results,results82,go_sem,C,D,E]) rfl ⟨wP (k0.trans k1) ay _ _ _,⟨#[]⟩,none,0,0,none,0,0,.inl ⟨B.out,rfl⟩⟩
 |true=>
  have b6:=qL hp;have a8:=qM R s [60] V0 a4 hp;obtain⟨r,hr⟩:∃r,s.drop 1=r:=⟨_,rfl⟩;have c8:1+r.length=s.length:=by rw[<- hr];exact b6
  rw[show s.drop ([60]:Bs).length=r from hr] at a8;have Y:Hid ([60].isPrefixOf s=true/\s.drop 1=r):=⟨hp,hr⟩;clear b6 hr hp;have c9:=EM r;go_enter func82,ntmps82;go_upto_region 4 with(first|(go_at_call 137;refine(sS R r _ _ qN nx aa).mono ?_;rintro e w3 ⟨rfl,Rz,k3⟩;have ZV:=b7.keep k3 A;have K3:=K2.trans k3)|(go_at_call 138;refine(nS [32,61,34,60,62,47] _).mono ?_;rintro e w2 ⟨rfl,rfl⟩)|(go_at_call 136;refine a8.mono ?_;rintro e w1 ⟨rfl,AA,k1⟩;have nx:=dN w1 #[ak ⟨([32,61,34,60,62,47]:Bs).toArray⟩] 9;have qN:=AA.al (ai #[ak ⟨([32,61,34,60,62,47]:Bs).toArray⟩] 9);have b7:=(a7.keep k1 A).al (ai #[ak ⟨([32,61,34,60,62,47]:Bs).toArray⟩] 9);have K2:=(k0.trans k1).al (ai #[ak ⟨([32,61,34,60,62,47]:Bs).toArray⟩] 9);clear AA));have a9:=dN w3 #[ak ⟨(lJ r).toArray⟩,aj none 0 0,aj none 0 0] 50;have b8:=Rz.al (ai #[ak ⟨(lJ r).toArray⟩,aj none 0 0,aj none 0 0] 50);have T:=ZV.al (ai #[ak ⟨(lJ r).toArray⟩,aj none 0 0,aj none 0 0] 50);have KU:=K3.al (ai #[ak ⟨(lJ r).toArray⟩,aj none 0 0,aj none 0 0] 50);have sZ:=ZV.lt;have sK:=K3.size;have b9:=aY a9;obtain⟨U,hU⟩:∃U,w3.alloc (ai #[ak ⟨(lJ r).toArray⟩,aj none 0 0,aj none 0 0] 50)=U:=⟨_,rfl⟩;obtain⟨N,hN⟩:∃N,w3.heap.size=N:=⟨_,rfl⟩;have c0:NB N (ak ⟨(lJ r).toArray⟩) (aj none 0 0) (aj none 0 0) U:=by rw[<- hU,<- hN];exact a9
  rw[hU] at b8 T KU b9⊢;rw[hN] at b9 sZ sK⊢;clear a9 hU hN Rz ZV K3 k3 qN b7 K2 nx k1 a4 a7 k0 NF a8;have O:R≠N:=aa;have m:W.heap.size≠N:=aa;have n:W.heap.size≠R:=aa;have c2:(lJ r).length<=maxLen:=by rw[dh];omega
  have Z:=c0.c0;by_cases he:lJ r=[]
  .have B:Hid (oF (f+1) s=none):=a8k Y.out.1 Y.out.2 he;rw[he] at Z;have C:=T.c0;have D:=T.c1;have E:=T.c2;have af:=T.eY;go_wp2_with fail;refine bodyPost_ret (v:=aF #[.agg #[ak ⟨#[]⟩,aj none 0 0,aj none 0 0],.bool false]) (by simp[results,results82,go_sem,C,D,E]) rfl ⟨wP KU ay _ _ _,⟨#[]⟩,none,0,0,none,0,0,.inl ⟨B.out,rfl⟩⟩
  .have d0:(lJ r).isEmpty=false:=by
    cases ht:lJ r with
    |nil=>exact absurd ht he
    |cons _ _=>rfl
   have AT:=a3S R N (yo r) (ak ⟨(lJ r).toArray⟩) (aj none 0 0) U b8 c0 O aa;cases hv:yt ((yo r).length+1) (yo r) with
   |none=>
    have B:Hid (oF (f+1) s=none):=a8l Y.out.1 Y.out.2 hv;have Ul:=AT.mono (R':=λe o=>dD R N U o/\e=ax (.bool false)) (λe o h=>by
     refine⟨h.1,?_⟩;obtain⟨vA, -,i|⟨a,z,i, -⟩⟩:=h.2
     .exact i.2
     .rw[hv] at i;cases i)
    clear AT hv;go_wp2_with(go_at_call 139;refine Ul.mono ?_;rintro e w5 ⟨l,rfl⟩;have H:=T.rV l n m;have C:=H.c0;have D:=H.c1;have E:=H.c2;have af:=H.eY);refine bodyPost_ret (v:=aF #[.agg #[ak ⟨#[]⟩,aj none 0 0,aj none 0 0],.bool false]) (by simp[results,results82,go_sem,C,D,E]) rfl ⟨wP (dD.keep KU l aa) ay _ _ _,⟨#[]⟩,none,0,0,none,0,0,.inl ⟨B.out,rfl⟩⟩
   |some q=>
    obtain⟨ats,y⟩:=q;have b3:=Np _ _ _ hv;have d1:y.length<=(yo r).length:=by have:=b3.1;simp only at this;omega
    have HA:Hid (∀x∈ats,x.1.length<=maxLen/\x.2.length<=maxLen):=(λx hx=>by have:=b3.2 x hx;rw[dh];omega:∀x∈ats,x.1.length<=maxLen/\x.2.length<=maxLen);clear b3;have HV:=aA hv;have Ul:=AT.mono (R':=λe o=>dD R N U o/\e=ax (.bool true)/\RD R y o/\∃oA I,NB N (ak ⟨(lJ r).toArray⟩) (aj oA ats.length I) (aj none 0 0) o/\o.ownsRow U.heap.size 145 2 (aj oA ats.length I) ats.length (bG ats)) (λe o h=>by
     refine⟨h.1,?_⟩;obtain⟨vA,h0,i|⟨a,z,i,Q,h4,h5⟩⟩:=h.2
     .rw[hv] at i;cases i.1
     .rw[hv] at i;cases i;obtain⟨oA,I,rfl⟩:=uG h5;exact⟨Q,h4,oA,I,h0,h5⟩)
    clear AT hv;cases Q:[47,62].isPrefixOf y with
    |true=>
     have B:Hid (oF (f+1) s=some (.mk (lJ r) ats [],y.drop 2)):=a8m Y.out.1 Y.out.2 he HV.out Q;go_wp2_with(first|(go_at_call 139;refine Ul.mono ?_;rintro e w5 ⟨l,rfl,RH,oA,I,Ns,vv⟩;have H:=T.rV l n m)|(go_at_call 136;refine(qM R y [47,62] _ RH Q).mono ?_;rintro e w6 ⟨rfl,c3,c⟩;have p:RD R (y.drop 2) w6:=c3;have g:=Ns.keep c O;have d:=H.keep c A;have Zu:=eX vv c aa;have K6:=(dD.keep KU l aa).trans c;clear c3;have Z:=g.c0;have b1:=g.c1;have b2:=g.c2;have C:=d.c0;have D:=d.c1;have E:=d.c2;have af:=d.eY));refine bodyPost_ret (v:=aF #[.agg #[ak ⟨(lJ r).toArray⟩,aj oA ats.length I,aj none 0 0],.bool true]) (by simp[results,results82,go_sem,C,D,E]) rfl ⟨wP K6 ay _ _ _,_,_,_,_,_,_,_,.inr ⟨_,_,B.out,rfl,a4b (K:=[]) c2 HA.out Zu (gp _ _ _ _) trivial p ay aa A⟩⟩
    |false=>
     cases h4:[62].isPrefixOf y with
     |false=>
      have B:Hid (oF (f+1) s=none):=a8n Y.out.1 Y.out.2 he HV.out Q h4;go_wp2_with(first|(go_at_call 139;refine Ul.mono ?_;rintro e w5 ⟨l,rfl,RH,oA,I,Ns,vv⟩;have H:=T.rV l n m;have K5:=dD.keep KU l aa)|(have z6:=p;go_at_call 136;refine(ni R y [62] _ z6 h4).mono ?_;rintro e w7 ⟨rfl,P,j⟩;have NJ:=g.keep j O;have k:=d.keep j A;have K7:=K6.trans j;have Z:=NJ.c0;have b1:=NJ.c1;have b2:=NJ.c2;have C:=k.c0;have D:=k.c1;have E:=k.c2;have af:=k.eY)|(go_at_call 136;refine(ni R y [47,62] _ RH Q).mono ?_;rintro e w6 ⟨rfl,p,c⟩;have g:=Ns.keep c O;have d:=H.keep c A;have Zu:=eX vv c aa;have K6:=K5.trans c));refine bodyPost_ret (v:=aF #[.agg #[ak ⟨(lJ r).toArray⟩,aj oA ats.length I,aj none 0 0],.bool false]) (by simp[results,results82,go_sem,C,D,E]) rfl ⟨wP K7 ay _ _ _,_,_,_,_,_,_,_,.inl ⟨B.out,rfl⟩⟩
     |true=>
      have c4:=qL h4;have a6:=λW h=>qM R y [62] W h h4;obtain⟨x,hx⟩:∃x,y.drop 1=x:=⟨_,rfl⟩;have d2:1+x.length=y.length:=by rw[<- hx];exact c4
      rw[show y.drop ([62]:Bs).length=x from hx] at a6;have HK:=a4c (f:=f) Y.out.1 Y.out.2 he HV.out Q h4 hx;have X:=λ(S:au) (W:ah) (h:RD R x W) (hn:NB N (ak ⟨(lJ r).toArray⟩) S (aj none 0 0) W)=>a8i R N f IH x _ S W h hn O aa aa;clear c4 hx h4;cases hk:zy (oF f) (x.length+1) x with
      |none=>
       have B:Hid (oF (f+1) s=none):=(by rw[HK,hk]:oF (f+1) s=none);have KD:∀(S:au) (W:ah),RD R x W->NB N (ak ⟨(lJ r).toArray⟩) S (aj none 0 0) W->aJ 140 #[aI R,aI N] W λe o=>dD R N W o/\∃J L M,NB N (ak ⟨(lJ r).toArray⟩) S (aj J L M) o/\e=ax (.bool false):=λS W h hn=>(X S W h hn).mono (λe o h=>by
        refine⟨h.1,?_⟩;obtain⟨J,L,M,h0,i|⟨a,z,K,i, -⟩⟩:=h.2
        .exact⟨J,L,M,h0,i.2⟩
        .rw[hk] at i;cases i)
       clear hk HK X;go_wp2_with(first|(go_at_call 139;refine Ul.mono ?_;rintro e w5 ⟨l,rfl,RH,oA,I,Ns,vv⟩;have H:=T.rV l n m;have K5:=dD.keep KU l aa)|(go_at_call 140;refine(KD _ _ P NJ).mono ?_;rintro e w8 ⟨k8,J,L,M,t,rfl⟩;have w:=k.rV k8 n m;have s7:=j.size;have s6:=c.size;have s5:=l.size;have K8:=dD.keep K7 k8 aa;have Z:=t.c0;have b1:=t.c1;have b2:=t.c2;have C:=w.c0;have D:=w.c1;have E:=w.c2;have af:=w.eY)|(have z6:=p;go_at_call 136;refine(a6 _ z6).mono ?_;rintro e w7 ⟨rfl,P,j⟩;have NJ:=g.keep j O;have k:=d.keep j A;have kz:=eX Zu j aa;have K7:=K6.trans j)|(go_at_call 136;refine(ni R y [47,62] _ RH Q).mono ?_;rintro e w6 ⟨rfl,p,c⟩;have g:=Ns.keep c O;have d:=H.keep c A;have Zu:=eX vv c aa;have K6:=K5.trans c));refine bodyPost_ret (v:=aF #[.agg #[ak ⟨(lJ r).toArray⟩,aj oA ats.length I,aj J L M],.bool false]) (by simp[results,results82,go_sem,C,D,E]) rfl ⟨wP K8 ay _ _ _,_,_,_,_,_,_,_,.inl ⟨B.out,rfl⟩⟩
      |some q=>
       obtain⟨ks,z⟩:=q;have KD:∀(S:au) (W:ah),RD R x W->NB N (ak ⟨(lJ r).toArray⟩) S (aj none 0 0) W->aJ 140 #[aI R,aI N] W λe o=>dD R N W o/\∃J L M,NB N (ak ⟨(lJ r).toArray⟩) S (aj J L M) o/\e=ax (.bool true)/\RD R z o/\∃K:List V3,o.ownsRow W.heap.size 50 3 (aj J L M) K.length (fG K)/\KR (λb=>W.heap.size<=b) o K ks:=λS W h hn=>(X S W h hn).mono (λe o h=>by
        refine⟨h.1,?_⟩;obtain⟨J,L,M,h0,i|⟨a,z',K,i,Q,h4,h5,h6⟩⟩:=h.2
        .rw[hk] at i;cases i.1
        .rw[hk] at i;cases i;exact⟨J,L,M,h0,Q,h4,K,h5,h6⟩)
       have d3:2+(lJ r).length<=9223372036854775807:=aa;have d4:2+(lJ r).length+1<=9223372036854775807:=aa;cases h5:(Iu (lJ r)).isPrefixOf z with
       |false=>
        have B:Hid (oF (f+1) s=none):=(by rw[HK,hk];show(if(Iu (lJ r)).isPrefixOf z=true then _ else none)=_;rw[if_neg (by rw[h5];simp)]:oF (f+1) s=none);clear hk HK X;go_wp2_with(first|(go_at_call 139;refine Ul.mono ?_;rintro e w5 ⟨l,rfl,RH,oA,I,Ns,vv⟩;have H:=T.rV l n m;have K5:=dD.keep KU l aa)|(have z8:=b4;go_at_call 136;rw[M9,M9];refine(ni R z (Iu (lJ r)) _ z8 h5).mono ?_;rintro e w9 ⟨rfl,c5,k9⟩;have F:=t.keep k9 O;have u:=w.keep k9 A;have K9:=K8.trans k9;clear Z;have Z:=F.c0;have b1:=F.c1;have b2:=F.c2;have C:=u.c0;have D:=u.c1;have E:=u.c2;have af:=u.eY)|(go_at_call 140;refine(KD _ _ P NJ).mono ?_;rintro e w8 ⟨k8,J,L,M,t,rfl,b4,K,ZH,c6⟩;have w:=k.rV k8 n m;have s7:=j.size;have s6:=c.size;have s5:=l.size;have K8:=dD.keep K7 k8 aa;have c7:=Lf kz k8 aa aa;have Z:=t.c0)|(have z6:=p;go_at_call 136;refine(a6 _ z6).mono ?_;rintro e w7 ⟨rfl,P,j⟩;have NJ:=g.keep j O;have k:=d.keep j A;have kz:=eX Zu j aa;have K7:=K6.trans j)|(go_at_call 136;refine(ni R y [47,62] _ RH Q).mono ?_;rintro e w6 ⟨rfl,p,c⟩;have g:=Ns.keep c O;have d:=H.keep c A;have Zu:=eX vv c aa;have K6:=K5.trans c));refine bodyPost_ret (v:=aF #[.agg #[ak ⟨(lJ r).toArray⟩,aj oA ats.length I,aj J L M],.bool false]) (by simp[results,results82,go_sem,C,D,E]) rfl ⟨wP K9 ay _ _ _,_,_,_,_,_,_,_,.inl ⟨B.out,rfl⟩⟩
       |true=>
        have B:Hid (oF (f+1) s=some (.mk (lJ r) ats ks,z.drop (Iu (lJ r)).length)):=(by rw[HK,hk];show(if(Iu (lJ r)).isPrefixOf z=true then _ else none)=_;rw[if_pos h5]:oF (f+1) s=some (.mk (lJ r) ats ks,z.drop (Iu (lJ r)).length));clear hk HK X;go_wp2_with(first|(go_at_call 139;refine Ul.mono ?_;rintro e w5 ⟨l,rfl,RH,oA,I,Ns,vv⟩;have H:=T.rV l n m;have K5:=dD.keep KU l aa)|(have z8:=b4;go_at_call 136;rw[M9,M9];refine(qM R z (Iu (lJ r)) _ z8 h5).mono ?_;rintro e w9 ⟨rfl,c5,k9⟩;have F:=t.keep k9 O;have u:=w.keep k9 A;have K9:=K8.trans k9;clear Z;have Z:=F.c0;have b1:=F.c1;have b2:=F.c2;have C:=u.c0;have D:=u.c1;have E:=u.c2;have af:=u.eY)|(go_at_call 140;refine(KD _ _ P NJ).mono ?_;rintro e w8 ⟨k8,J,L,M,t,rfl,b4,K,ZH,c6⟩;have w:=k.rV k8 n m;have s7:=j.size;have s6:=c.size;have s5:=l.size;have K8:=dD.keep K7 k8 aa;have c7:=Lf kz k8 aa aa;have Z:=t.c0)|(have z6:=p;go_at_call 136;refine(a6 _ z6).mono ?_;rintro e w7 ⟨rfl,P,j⟩;have NJ:=g.keep j O;have k:=d.keep j A;have kz:=eX Zu j aa;have K7:=K6.trans j)|(go_at_call 136;refine(ni R y [47,62] _ RH Q).mono ?_;rintro e w6 ⟨rfl,p,c⟩;have g:=Ns.keep c O;have d:=H.keep c A;have Zu:=eX vv c aa;have K6:=K5.trans c));refine bodyPost_ret (v:=aF #[.agg #[ak ⟨(lJ r).toArray⟩,aj oA ats.length I,aj J L M],.bool true]) (by simp[results,results82,go_sem,C,D,E]) rfl ⟨wP K9 ay _ _ _,_,_,_,_,_,_,_,.inr ⟨_,_,B.out,rfl,a4b (U:=U.heap.size) (K:=K) c2 HA.out (eX c7 k9 aa) (eX (ZU ZH aa) k9 aa) (KR.turn (λb hb _=>⟨aa,k9.block b fC aa⟩) c6) c5 ay aa A⟩⟩
end
open Go.RowKit
abbrev St:=Bs×List (Bs×Bs)×Int
def st (f:Fl):St:=(f.name,f.attrs,f.parent)
theorem LE.me {E:Nat->Addr}{w:ah}(h:LE E w):ME E w:=⟨h.de.c2,h.de.c4,h.de.c6,h.de.c7,h.de.c8,h.de.c10⟩
def LvE (W:ah)(LB B DB:Nat)(M:Dm)(nx c:Nat)(r:Int->Nat)(rl:List Rl)(l:List Pc)(w h:Nat):Prop:=∃b d p e a pv f,LvS W LB B b DB d p M nx c r rl e a pv w h f/\a.map fq.pc=l
theorem LvE.base {W:ah}{LB B DB:Nat}{M:Dm}{nx c:Nat}{r:Int->Nat}{rl:List Rl}{l:List Pc}{w h:Nat}(b:LvE W LB B DB M nx c r rl l w h):B<=LB/\B<=DB/\B<=W.heap.size:=by
 obtain⟨d,e,p,f,g,pv,i,a,j⟩:=b;exact⟨a.base,(a.ds.w.low _ _ a.ds.w.mH).1,a.ds.low⟩
theorem LvE.Xc {W:ah}{LB B DB:Nat}{M:Dm}{nx c:Nat}{r:Int->Nat}{rl:List Rl}{l:List Pc}{w h:Nat}(b:LvE W LB B DB M nx c r rl l w h)(a:1<=w)(d:w<=40)(f:1<=h)(i:h<=40):
  aJ 49 #[aI LB] W λe w'=>∃g cp,e=ax (.agg #[ag w,ag h,aj (some ⟨g,0,none⟩) (w*h) cp])/\w'.ownsRow W.heap.size 9 1 (aj (some ⟨g,0,none⟩) (w*h) cp) (w*h) ((ng bA (l.map gX) w h).map ak)/\aD W w':=by
 obtain⟨k,m,p,n,o,pv,q,j,rfl⟩:=b;exact Rq j a d f i
def Ei (E:Nat->Addr)(k:Nat)(v:au)(w:ah):Prop:=v=eV (E k)\/∃a n,v=aP 67 (aI a)/\w.cell? (aH a 0)=some (ag n)/\w.cell? (aH a 1)=some (eV (E k))
theorem a4e (l:List Qt):∃k,1<=k/\k<=10/\∀E:Nat->Addr,C9 (E 2) (E 3) (E 10) l=E k:=by
 unfold C9 UG
 repeat' split
 all_goals first|exact⟨2,aC,aC,λ_=>rfl⟩|exact⟨3,aC,aC,λ_=>rfl⟩|exact⟨10,aC,aC,λ_=>rfl⟩
theorem IG {c:Type}{p:c->Prop}:∀{q d t g:List c} {x e:c},q++x::t=d++e::g->(∀y∈q,p y)->¬p x->(∀y∈d,p y)->¬p e->x=e
 |[],[],_,_,_,_,h,_,_,_,_=>(List.cons.inj h).1
 |[],a::_,_,_,_,_,h,_,h2,h3,_=>by grind
 |a::_,[],_,_,_,_,h,h1,_,_,h4=>by grind
 |a::q,b::d,_,_,_,_,h,h1,h2,h3,h4=>IG (List.cons.inj h).2 (λy f=>h1 y (by simp[f])) h2 (λy f=>h3 y (by simp[f])) h4
theorem RI (c:Nat):1<=vW c/\vW c<=10:=by
 unfold vW;grind
theorem RJ {a:Type}{P:Ft->Prop}{g:Nat×List Pc->a->Except Ft (Nat×List Pc)}(c:∀s x e,g s x=.error e->P e):∀(l:List a) (s:Nat×List Pc) (e:Ft),l.foldlM g s=.error e->P e
 |[],s,e,h=>by cases h
 |x::l,s,e,h=>by
  rw[List.foldlM_cons] at h;cases b:g s x with
  |error d=>rw[b] at h;cases h;exact c s x _ b
  |ok t=>
   rw[b] at h;exact RJ c l t e h
theorem II {M:Dm}{l:List Rl}{n:Int}{m:Mv}{x:Except Nat (List Qt)}{st:Nat×List Pc}{e:Ft}(h:jR M l n m x st=.error e):1<=e.code/\e.code<=10:=by
 unfold jR at h;split at h
 .cases h;exact RI _
 .grind
theorem Cq (M:Dm)(l:List Rl):∀(f:Nat) (n:Int) (path:List Int) (m:Mv) (st:Nat×List Pc) (e:Ft),fK M l f n path m st=.error e->1<=e.code/\e.code<=10
 |0,n,path,m,st,e,h=>by
  unfold fK at h;grind
 |f+1,n,path,m,st,e,h=>by
  unfold fK at h;split at h
  .cases h;simp
  split at h
  .cases h;simp
  split at h
  .cases h
  split at h
  .cases h;exact RI _
  .split at h
   .exact II h
   .split at h
    .exact II h
    .split at h
     .exact RJ (λs x e h=>Cq M l f x _ _ s e h) _ _ e h
     .split at h
      .cases h;simp
      .exact Cq M l f _ _ _ _ e h
theorem Ci.num (M:Dm)(rl:List Rl):∃k,1<=k/\k<=10/\∀E v w,Ci E M rl v w->Ei E k v w:=by
 cases a:eH M rl with
 |error e=>
  have j:1<=e.code/\e.code<=10:=by
   unfold eH at a;split at a
   .next h=>cases a;exact Cq M rl _ _ _ _ _ _ h
   .cases a
  refine⟨e.code,j.1,j.2,λE v w ⟨b,n,c,d,f⟩=>.inr ⟨b,n,c,d,?_⟩⟩;grind
 |ok l=>
  by_cases o:∃q x t,l=q++x::t/\(∀y∈q,jU (gX y))/\¬jU (gX x)
  .obtain⟨q,x,t,r,s,u⟩:=o;obtain⟨k,z,A,B⟩:=a4e (gX x).pts;refine⟨k,z,A,λE v w ⟨b,n,c,d,f⟩=>.inr ⟨b,n,c,d,?_⟩⟩;rcases f with⟨C,g,m⟩|⟨I,D,J,g,m,F,H⟩
   .grind
   .rw[a] at g;have i:x=D:=IG (p:=λy=>jU (gX y)) (r.symm.trans (Except.ok.inj g)) s u m F;subst i;rw[H,B]
  .refine⟨1,aC,aC,λE v w ⟨b,n,c,d,f⟩=>?_⟩;grind
def xO (W:ah)(LB B DB:Nat)(M:Dm)(nx c:Nat)(rl:List Rl)(l:List Pc)(w h:Nat)(X:Option Nat):Prop:=∃r a f p g d pv e,LvS W LB B a DB f p M nx c r rl g d pv w h e/\d.map fq.pc=l/\∀b,X=some b->a b=none/\e.ownBlock≠some b
theorem xO.e {W:ah}{LB B DB:Nat}{M:Dm}{nx c:Nat}{rl:List Rl}{l:List Pc}{w h:Nat}{X:Option Nat}(a:xO W LB B DB M nx c rl l w h X):∃r,LvE W LB B DB M nx c r rl l w h:=by
 obtain⟨r,b,d,p,e,f,pv,g,i,j, -⟩:=a;exact⟨r,b,d,p,e,f,pv,g,i,j⟩
theorem xO.below {W a:ah}{LB B DB:Nat}{M:Dm}{nx c:Nat}{rl:List Rl}{l:List Pc}{w h:Nat}{X:Option Nat}(b:xO W LB B DB M nx c rl l w h X)(d:aD W a):xO a LB B DB M nx c rl l w h X:=by
 obtain⟨r,e,f,p,g,i,pv,j,k,m,n⟩:=b;exact⟨r,e,f,p,g,i,pv,j,k.below d,m,n⟩
def agI (B:Nat)(w:ah)(v:au)(l a:List Pc)(h:Nat):Prop:=∃o n b,v=aj o n b/\w.ownsRow B 3 1 v (sM l a h).length (bO ((sM l a h).map λ(y:Nat)=>(y:Int)))
variable {E:Nat->Addr}{x:Ed}{M J:Dm}{nx c I L H:Nat}{rl:List Rl}{l:List Pc}{w h:Nat}

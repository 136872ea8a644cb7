import Derived.Lib.Split
import Derived.Lib.SlicesS
import Derived.Shelf.GgClosure.StringsIndexFunc
import Derived.Test.YtbkjmamcnflncaaGreatDoorQsb
namespace Go.Proofs.YtbkjmamcnflncaaGreatDoor
abbrev Bs:=List UInt8
inductive Nd where
 |mk (name:Bs) (attrs:List (Bs×Bs)) (kids:List Nd)
def XF (c:UInt8):Bs:=if c=60 then[38,108,116,59] else if c=62 then[38,103,116,59] else if c=38 then[38,97,109,112,59] else if c=34 then[38,113,117,111,116,59] else[c]
def nZ:Bs->Bs
 |[]=>[]
 |c::v=>XF c++nZ v
def atT (a:Bs×Bs):Bs:=32::(a.1++61::34::(nZ a.2++[34]))
def jP:List (Bs×Bs)->Bs
 |[]=>[]
 |a::l=>atT a++jP l
mutual
def txt:Nd->Bs
 | .mk b a c=>60::(b++(jP a++(match c with
  |[]=>[47,62]
  |k::l=>62::(txt k++(lV l++60::47::(b++[62]))))))
def lV:List Nd->Bs
 |[]=>[]
 |k::l=>txt k++lV l
end
theorem Lt (nm:Bs)(a:List (Bs×Bs)):txt (.mk nm a [])=60::(nm++(jP a++[47,62])):=by simp[txt]
theorem EU (nm:Bs)(a:List (Bs×Bs))(k:Nd)(l:List Nd):txt (.mk nm a (k::l))=60::(nm++(jP a++62::(lV (k::l)++60::47::(nm++[62])))):=by simp[txt,lV]
def DR (c:UInt8):Bool:=decide (97<=c) && decide (c<=122)
def SQ (c:UInt8):Bool:=decide (48<=c) && decide (c<=57)
def nmB (c:UInt8):Bool:=DR c||SQ c||c==45
def iF (s:Bs):Bool:=match s with
 |[]=>false
 |c::r=>decide ((c::r).length<=12) && DR c && r.all nmB
def isVal (s:Bs):Bool:=decide (s.length<=200) && s.all (λc=> !(decide (c<32)) && !(decide (126<c)))
structure Fl where
 name:Bs
 attrs:List (Bs×Bs)
 parent:Int
 deep:Nat
structure gP where
 name:Bs
 ats:List (Bs×Bs)
 parent:Int
 kids:List Int
abbrev Dm:=Int->Option gP
def dY (M:Dm)(k:Int)(e:gP):Dm:=λi=>if i=k then some e else M i
def NL (M:Dm)(k:Int):Dm:=λi=>if i=k then none else M i
def kH (M:Dm)(nx:Nat)(L:List gP):Dm:=λi=>if(nx:Int)<=i/\i<nx+L.length then L[(i-nx).toNat]? else M i
theorem a0w (M:Dm)(nx:Nat)(a b:List gP):kH (kH M nx a) (nx+a.length) b=kH M nx (a++b):=by
 funext i;unfold kH;grind
theorem a0x (M:Dm)(nx:Nat)(e:gP):kH M nx [e]=dY M nx e:=by
 funext i;unfold kH dY;grind
theorem XG (M:Dm)(nx:Nat)(e a:gP)(L:List gP):dY (kH M nx (e::L)) nx a=kH M nx (a::L):=by
 funext i;unfold kH dY;grind
theorem Vx (M:Dm)(nx:Nat)(e:gP)(L:List gP):kH M nx (e::L) nx=some e:=by
 unfold kH;grind
theorem a0y {M:Dm}{nx:Nat}{L:List gP}{i:Int}(h:i<nx):kH M nx L i=M i:=by
 unfold kH;grind
theorem a0z {M:Dm}{nx j:Nat}{L:List gP}(h:j<L.length):kH M nx L ((nx:Int)+j)=L[j]? :=by
 unfold kH;grind
mutual
def je:Nd->Nat
 | .mk _ _ ks=>nJ ks+1
def nJ:List Nd->Nat
 |[]=>0
 |n::l=>je n+nJ l
end
theorem Vy (n:Nd):0<je n:=by cases n;simp[je]
theorem Ep:∀a b:List Nd,nJ (a++b)=nJ a+nJ b
 |[],b=>by simp[nJ]
 |n::a,b=>by simp[nJ,Ep a b];omega
def xH (k:Nat):List Nd->List Int
 |[]=>[]
 |n::l=>(k:Int)::xH (k+je n) l
theorem NM:∀(a:List Nd) (k:Nat) (n:Nd),xH k (a++[n])=xH k a++[((k+nJ a:Nat):Int)]
 |[],k,n=>by simp[xH,nJ]
 |m::a,k,n=>by
  rw[fV,xH,NM a,xH,nJ];grind
mutual
def uK (k:Nat)(p:Int):Nd->List gP
 | .mk c a b=>⟨c,a,p,xH (k+1) b⟩::vB (k+1) k b
def vB (k:Nat)(p:Int):List Nd->List gP
 |[]=>[]
 |n::l=>uK k p n++vB (k+je n) p l
end
mutual
theorem iM:∀(n:Nd) (k:Nat) (p:Int),(uK k p n).length=je n
 | .mk c a b,k,p=>by rw[uK,je,eP,Lu b]
theorem Lu:∀(l:List Nd) (k:Nat) (p:Int),(vB k p l).length=nJ l
 |[],_,_=>rfl
 |n::l,k,p=>by rw[vB,nJ,dJ,iM n,Lu l]
end
theorem NP:∀(a:List Nd) (k:Nat) (p:Int) (n:Nd),vB k p (a++[n])=vB k p a++uK (k+nJ a) p n
 |[],k,p,n=>by simp[vB,nJ]
 |m::a,k,p,n=>by
  rw[fV,vB,NP a,vB,nJ];grind
def Dp (M:Dm):Nat->Int->Prop
 |0,_=>False
 |f+1,i=>∀e,M i=some e->∀k∈e.kids,Dp M f k
def pre (M:Dm):Nat->Int->Int->List (Int×Int)
 |0,_,_=>[]
 |f+1,i,d=>match M i with
  |none=>[]
  |some e=>(i,d)::e.kids.flatMap (λk=>pre M f k (d+1))
def lastB:Bs->Option (Bs×Bs)
 |[]=>none
 |c::s=>match lastB s with
  |some x=>some (c::x.1,x.2)
  |none=>if c=32 then some ([],s) else none
theorem nL:∀{s a b:Bs},lastB s=some (a,b)->s=a++32::b/\(32:UInt8) ∉ b
 |[],_,_,h=>by simp[lastB] at h
 |c::s,a,b,h=>by
  rw[lastB] at h;cases d:lastB s with
  |some x=>
   obtain⟨i,j⟩:=x;rw[d] at h;simp at h;obtain⟨rfl,rfl⟩:=h;obtain⟨e,k⟩:=nL d;grind
  |none=>
   rw[d] at h;simp only at h;split at h
   .rename_i f;cases h;refine⟨by rw[f];rfl,?_⟩;exact qj d
   .cases h
where
 qj:∀{s:Bs},lastB s=none->(32:UInt8) ∉ s
 |[],_=>aG
 |c::s,h=>by
  rw[lastB] at h;cases d:lastB s with
  |some x=>rw[d] at h;simp at h
  |none=>
   rw[d] at h;simp only at h;split at h
   .cases h
   .rename_i f;intro g;rcases gD.1 g with e|e
    .exact f e.symm
    .exact qj d e
theorem qj {s:Bs}(h:lastB s=none):(32:UInt8) ∉ s:=nL.qj h
def J8 (a:Bs):Option Bs:=if a.drop (a.length-2)=[32,62] then some (a.take (a.length-2)) else none
theorem XH {a x:Bs}(h:J8 a=some x):a=x++[32,62]:=by
 unfold J8 at h;split at h
 .rename_i b;cases h;have:=jJ (a.length-2) a;grind
 .cases h
inductive Lk where
 |no
 |right
 |below
def Lk.bs:Lk->Bs
 | .no=>[]
 | .right=>[32,62,32]
 | .below=>[32]
def uS (s:Bs):Bs×Lk×Bs:=match lastB s with
 |none=>([],.no,s)
 |some (a,b)=>match J8 a with
  |some x=>(x,.right,b)
  |none=>(a,.below,b)
theorem rP {s a b:Bs}{k:Lk}(h:uS s=(a,k,b))(e:k≠.no):a.length<s.length:=by
 unfold uS at h;cases c:lastB s with
 |none=>rw[c] at h;cases h;exact absurd rfl e
 |some x=>
  obtain⟨f,g⟩:=x;obtain⟨i, -⟩:=nL c;rw[c] at h;simp only at h;cases d:J8 f with
  |none=>
   grind
  |some y=>
   rw[d] at h;cases h;have j:=congrArg List.length (XH d);grind
def qZ:Nat->Bs->List Bs
 |0,_=>[]
 |f+1,s=>match uS s with
  |(_,.no,b)=>[b]
  |(a,_,b)=>b::qZ f a
def XI (c:UInt8):Bool:=c==35||c==46||c==91
def iB:Bs->Option (Bs×UInt8×Bs)
 |[]=>none
 |c::s=>if XI c then some ([],c,s) else match iB s with
  |some x=>some (c::x.1,x.2)
  |none=>none
theorem tH:∀{s a r:Bs} {m:UInt8},iB s=some (a,m,r)->s=a++m::r/\XI m=true/\a.all (λc=> !XI c)=true
 |[],_,_,_,h=>by simp[iB] at h
 |c::s,a,r,m,h=>by
  rw[iB] at h;split at h
  .rename_i d;grind
  .rename_i d;cases b:iB s with
   |none=>rw[b] at h;cases h
   |some x=>
    obtain⟨e,f,g⟩:=x;rw[b] at h;cases h;obtain⟨i,j,k⟩:=tH b;grind
def qm (k:UInt8)(s:Bs):Bs:=if k=91 then(if s.drop (s.length-1)=[93] then s.take (s.length-1) else[]) else s
def tJ:Nat->UInt8->Bs->List (UInt8×Bs)
 |0,_,_=>[]
 |f+1,k,s=>match iB s with
  |none=>[(k,qm k s)]
  |some (a,m,r)=>(k,qm k a)::tJ f m r
def Ct (s:Bs):Bool:=s==[]||s==[42]
def SX (x:UInt8×Bs):Bool:=(x.1==0 && Ct x.2)||iF x.2
def Cu:Nat->List (UInt8×Bs)->Bool
 |_,[]=>true
 |c,x::l=>decide ((if x.1=0 then c else c+1)<=8) && SX x && Cu (if x.1=0 then c else c+1) l
def uL (s:Bs):List (UInt8×Bs):=tJ (s.length+1) 0 s
def xQ (s:Bs):Bool:=Cu 0 (uL s) && s !=[]
def Cv:Nat->List Bs->Bool
 |_,[]=>true
 |c,x::l=>decide (c+1<=5) && xQ x && Cv (c+1) l
def jv (s:Bs):List Bs:=qZ (s.length+1) s
def r9 (s:Bs):Bool:=Cv 0 (jv s)
def NS (x:UInt8×Bs):Nat:=if x.1=35 then 100 else if x.1=46\/x.1=91 then 10 else if Ct x.2 then 0 else 1
def ny (l:List (UInt8×Bs)):Nat:=(l.map NS).sum
def wtM (s:Bs):Nat:=((jv s).map λt=>ny (uL t)).sum
def oM (l:List (Bs×Bs))(nm:Bs):Option Bs:=(l.find? λa=>a.1==nm).map Prod.snd
def aek (v nm:Bs):Bool:=Lib.containsS (Lib.splitB ⟨#[32]⟩ 0 (Lib.countB ⟨v.toArray⟩ ⟨#[32]⟩) ⟨v.toArray⟩) ⟨nm.toArray⟩
def Cw (e:gP)(x:UInt8×Bs):Bool:=
 if x.1=35 then(oM e.ats [105,100]).getD []==x.2
 else if x.1=46 then aek ((oM e.ats [99,108,97,115,115]).getD []) x.2
 else if x.1=91 then(oM e.ats x.2).isSome
 else Ct x.2||e.name==x.2
def NV (M:Dm)(s:Bs)(n:Int):Bool:=match M n with
 |none=>false
 |some e=>e.name !=[] && (uL s).all (Cw e)
def l6 (M:Dm):Nat->Int->List Int
 |0,_=>[]
 |f+1,n=>match M n with
  |none=>[]
  |some e=>if e.parent<0 then[] else e.parent::l6 M f e.parent
def J9 (M:Dm):Nat->Bs->Int->Bool
 |0,_,_=>false
 |f+1,s,n=>match uS s with
  |(a,k,b)=>NV M b n && (match k with
   | .no=>true
   | .right=>J9 M f a (match M n with|none=> -1|some e=>e.parent)
   | .below=>(l6 M 11 n).any (J9 M f a))
def o6 (M:Dm)(s:Bs)(n:Int):Bool:=J9 M (s.length+1) s n
def xI (M:Dm)(n:Int):Int:=match M n with|none=> -1|some e=>e.parent
theorem qQ:∀(f g:Nat) (s:Bs),s.length<f->s.length<g->qZ f s=qZ g s
 |0,_,_,h,_=>aa
 |_,0,_,_,h=>aa
 |f+1,g+1,s,e,i=>by
  obtain⟨a,k,b,c⟩:∃a k b,uS s=(a,k,b):=⟨_,_,_,rfl⟩;rw[qZ,qZ,c];cases k with
  |no=>rfl
  |right=>
   have d:=rP c aG;simp only;rw[qQ f g a aa aa]
  |below=>
   have d:=rP c aG;simp only;rw[qQ f g a aa aa]
theorem NY {s a b:Bs}(h:uS s=(a,.no,b)):jv s=[b]:=by
 rw[jv,qZ,h]
theorem EW {s a b:Bs}{k:Lk}(h:uS s=(a,k,b))(c:k≠.no):jv s=b::jv a:=by
 have d:=rP h c;rw[jv,qZ,h];cases k with
 |no=>exact absurd rfl c
 |right=>simp only;rw[jv,qQ s.length (a.length+1) a d aa]
 |below=>simp only;rw[jv,qQ s.length (a.length+1) a d aa]
theorem vC {s a r:Bs}{m:UInt8}(h:iB s=some (a,m,r)):r.length<s.length:=by
 have:=congrArg List.length (tH h).1;grind
theorem Cx:∀(f g:Nat) (k:UInt8) (s:Bs),s.length<f->s.length<g->tJ f k s=tJ g k s
 |0,_,_,_,h,_=>aa
 |_,0,_,_,_,h=>aa
 |f+1,g+1,k,s,c,d=>by
  rw[tJ,tJ];cases b:iB s with
  |none=>rfl
  |some x=>
   obtain⟨a,m,r⟩:=x;have:=vC b;simp only;rw[Cx f g m r aa aa]
def pts (k:UInt8)(s:Bs):List (UInt8×Bs):=tJ (s.length+1) k s
theorem a0A {k:UInt8}{s:Bs}(h:iB s=none):pts k s=[(k,qm k s)]:=by
 rw[pts,tJ,h]
theorem NZ {k m:UInt8}{s a r:Bs}(h:iB s=some (a,m,r)):pts k s=(k,qm k a)::pts m r:=by
 have:=vC h;rw[pts,tJ,h];simp only;rw[pts,Cx s.length (r.length+1) m r aa aa]
theorem O0 (k:UInt8)(s:Bs):(qm k s).length<=s.length:=by
 unfold qm;grind
theorem JJ {s a b:Bs}{k:Lk}(h:uS s=(a,k,b)):b.length<=s.length:=by
 unfold uS at h;cases c:lastB s with
 |none=>rw[c] at h;cases h;exact Nat.le_refl _
 |some x=>
  obtain⟨d,e⟩:=x;obtain⟨f, -⟩:=nL c;grind
theorem XJ (a b:List (UInt8×Bs)):ny (a++b)=ny a+ny b:=by
 unfold ny;grind
structure Rl where
 wh:Bs
 nm:Bs
 vl:Bs
def vD:Bs:=[102,105,108,108]
def zB:Bs:=[115,104,111,119]
def xR:Bs:=[114,117,108,101]
def tK:Bs:=[108,101,118,101,108]
def firstM (s:Bs):Bs:=if s=vD then[110,111,110,101] else if s=zB then[121,101,115] else if s=xR then[119,105,110,100] else if s=tK then[48] else[]
def Cy (s:Bs):Bool:=firstM s !=[]
def JK (s:Bs):Bool:=s==vD||s==xR
def XK (x:Nat):Bool:= !((decide (97<=x) && decide (x<=122))||(decide (48<=x) && decide (x<=57))||x==45)
def yC (s:Bs):Bool:=s !=[] && decide (s.length<=12) && !decide (0<=Lib.idxFunc XK true ⟨s.toArray⟩)
def uM (l:Bs):Option Rl:=
 if(Lib.cut l [32,123,32]).2.2 && Lib.hasSuffix (Lib.cut l [32,123,32]).2.1 [32,125] && (Lib.cut (Lib.trimSuffix (Lib.cut l [32,123,32]).2.1 [32,125]) [58,32]).2.2 && Cy (Lib.cut (Lib.trimSuffix (Lib.cut l [32,123,32]).2.1 [32,125]) [58,32]).1 && yC (Lib.cut (Lib.trimSuffix (Lib.cut l [32,123,32]).2.1 [32,125]) [58,32]).2.1 && r9 (Lib.cut l [32,123,32]).1 then
  some ⟨(Lib.cut l [32,123,32]).1,(Lib.cut (Lib.trimSuffix (Lib.cut l [32,123,32]).2.1 [32,125]) [58,32]).1,(Lib.cut (Lib.trimSuffix (Lib.cut l [32,123,32]).2.1 [32,125]) [58,32]).2.1⟩
 else none
def SY:Nat->List Rl->Bs->Except Nat (List Rl)
 |0,a,_=>.ok a
 |f+1,a,s=>if s=[] then .ok a else match uM (Lib.cut s [10]).1 with
  |none=>.error a.length
  |some r=>if(Lib.cut s [10]).2.2 then SY f (a++[r]) (Lib.cut s [10]).2.1 else .error a.length
def Lv (s:Bs):Except Nat (List Rl):=SY (s.length+1) [] s
theorem Vz (s a:Bs)(h:(Lib.cut s a).2.2=true)(hs:a≠[]):(Lib.cut s a).2.1.length<s.length:=by
 unfold Lib.cut at h⊢;split
 .next b=>
  have c:=Lib.index_room s a b;have d:0<a.length:=by grind
  grind
 .next b=>rw[if_neg b] at h;simp at h
theorem o8 (s a:Bs):(Lib.cut s a).1.length<=s.length:=by
 unfold Lib.cut;grind
theorem vF (s a:Bs):(Lib.cut s a).2.1.length<=s.length:=by
 unfold Lib.cut;grind
theorem XL (s p:Bs):(Lib.trimSuffix s p).length<=s.length:=by
 unfold Lib.trimSuffix;grind
theorem VA (f:Nat)(a:List Rl):SY f a []=.ok a:=by cases f<;>simp[SY]
theorem VB {f:Nat}{a:List Rl}{s:Bs}(hs:s≠[])(b:uM (Lib.cut s [10]).1=none):SY (f+1) a s=.error a.length:=by
 rw[SY,if_neg hs,b]
theorem O3 {f:Nat}{a:List Rl}{s:Bs}(hs:s≠[])(b:(Lib.cut s [10]).2.2=false):SY (f+1) a s=.error a.length:=by
 rw[SY,if_neg hs];grind
theorem O4 {f:Nat}{a:List Rl}{s:Bs}{r:Rl}(hs:s≠[])(b:uM (Lib.cut s [10]).1=some r)(he:(Lib.cut s [10]).2.2=true):SY (f+1) a s=SY f (a++[r]) (Lib.cut s [10]).2.1:=by
 rw[SY,if_neg hs,b];simp[he]
def DT (r:Rl):Prop:=r9 r.wh=true/\Cy r.nm=true/\yC r.vl=true/\r.wh.length<=1000000
theorem a0B {l:Bs}{r:Rl}(b:l.length<=1000000)(h:uM l=some r):DT r:=by
 unfold uM at h;split at h
 .next a=>
  simp only[iW] at a;cases h;exact⟨a.2,a.1.1.2,a.1.2,bu (o8 _ _) b⟩
 .cases h
theorem a0C:∀(f:Nat) (a:List Rl) (s:Bs) (l:List Rl),s.length<=1000000->(∀r∈a,DT r)->SY f a s=.ok l->∀r∈l,DT r
 |0,a,s,l,_,c,h=>by rw[SY] at h;cases h;exact c
 |f+1,a,s,l,g,c,h=>by
  by_cases d:s=[]
  .subst d;rw[VA] at h;cases h;exact c
  .cases e:uM (Lib.cut s [10]).1 with
   |none=>rw[VB d e] at h;cases h
   |some r=>
    cases i:(Lib.cut s [10]).2.2 with
    |false=>rw[O3 d i] at h;cases h
    |true=>
     rw[O4 d e i] at h;refine a0C f _ _ l (bu (vF _ _) g) (λx b=>?_) h;rcases gT.1 b with b|b
     .exact c x b
     .rw[List.mem_singleton.1 b];exact a0B (bu (o8 _ _) g) e
def l8 (p:Rl->Bool)(a:Bs×Bool×Nat)(r:Rl):Bs×Bool×Nat:=if decide (a.2.2<=wtM r.wh) && p r then(r.vl,true,wtM r.wh) else a
def J3 (p:Rl->Bool)(l:List Rl):Bs×Bool×Nat:=l.foldl (l8 p) ([],false,0)
theorem a0D (p:Rl->Bool)(l:List Rl)(r:Rl):J3 p (l++[r])=l8 p (J3 p l) r:=by
 unfold J3;grind
theorem JL {p:Rl->Bool}{a:Bs×Bool×Nat}{r:Rl}(h:p r=false):l8 p a r=a:=by unfold l8;rw[h];simp
theorem EX {p:Rl->Bool}{a:Bs×Bool×Nat}{r:Rl}(h:¬a.2.2<=wtM r.wh):l8 p a r=a:=by unfold l8;rw[iH h];simp
theorem EY {p:Rl->Bool}{a:Bs×Bool×Nat}{r:Rl}(h:a.2.2<=wtM r.wh)(hp:p r=true):l8 p a r=(r.vl,true,wtM r.wh):=by unfold l8;rw[decide_eq_true h,hp];simp
def DU (M:Dm)(n:Int)(nm:Bs):Option Bs:=match M n with|none=>none|some e=>oM e.ats nm
def rq (M:Dm)(nm:Bs)(n:Int)(r:Rl):Bool:=r.nm==nm && o6 M r.wh n
def xS (M:Dm)(l:List Rl)(nm:Bs)(n:Int):Option Bs:=match DU M n nm with
 |some v=>some v
 |none=>if(J3 (rq M nm n) l).2.1 then some (J3 (rq M nm n) l).1 else none
def Lx (M:Dm)(l:List Rl)(nm:Bs):Nat->Int->Bs
 |0,_=>firstM nm
 |f+1,n=>if n<0 then firstM nm else match xS M l nm n with
  |some v=>v
  |none=>if JK nm then Lx M l nm f (xI M n) else firstM nm
def ofM (M:Dm)(l:List Rl)(nm:Bs)(n:Int):Bs:=if(M n).isSome && Cy nm then Lx M l nm 12 n else[]

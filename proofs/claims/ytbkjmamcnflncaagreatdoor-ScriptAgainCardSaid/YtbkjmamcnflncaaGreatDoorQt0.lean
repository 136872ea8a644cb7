import Derived.Lib.Split
import Derived.Lib.SlicesS
import Derived.Shelf.GgClosure.StringsIndexFunc
import Derived.Test.YtbkjmamcnflncaaGreatDoorQtb
namespace Go.Proofs.YtbkjmamcnflncaaGreatDoor
abbrev Bs:=List UInt8
inductive Nd where
 |mk (name:Bs) (attrs:List (Bs×Bs)) (kids:List Nd)
def Yl (c:UInt8):Bs:=if c=60 then[38,108,116,59] else if c=62 then[38,103,116,59] else if c=38 then[38,97,109,112,59] else if c=34 then[38,113,117,111,116,59] else[c]
def oO:Bs->Bs
 |[]=>[]
 |c::v=>Yl c++oO v
def atT (a:Bs×Bs):Bs:=32::(a.1++61::34::(oO a.2++[34]))
def jY:List (Bs×Bs)->Bs
 |[]=>[]
 |a::l=>atT a++jY l
mutual
def txt:Nd->Bs
 | .mk b a c=>60::(b++(jY a++(match c with
  |[]=>[47,62]
  |k::l=>62::(txt k++(mF l++60::47::(b++[62]))))))
def mF:List Nd->Bs
 |[]=>[]
 |k::l=>txt k++mF l
end
theorem Mr (nm:Bs)(a:List (Bs×Bs)):txt (.mk nm a [])=60::(nm++(jY a++[47,62])):=by simp[txt]
theorem FP (nm:Bs)(a:List (Bs×Bs))(k:Nd)(l:List Nd):txt (.mk nm a (k::l))=60::(nm++(jY a++62::(mF (k::l)++60::47::(nm++[62])))):=by simp[txt,mF]
def EG (c:UInt8):Bool:=decide (97<=c) && decide (c<=122)
def TW (c:UInt8):Bool:=decide (48<=c) && decide (c<=57)
def nmB (c:UInt8):Bool:=EG c||TW c||c==45
def iQ (s:Bs):Bool:=match s with
 |[]=>false
 |c::r=>decide ((c::r).length<=12) && EG c && r.all nmB
def isVal (s:Bs):Bool:=decide (s.length<=200) && s.all (λc=> !(decide (c<32)) && !(decide (126<c)))
structure Fl where
 name:Bs
 attrs:List (Bs×Bs)
 parent:Int
 deep:Nat
structure ig where
 name:Bs
 ats:List (Bs×Bs)
 parent:Int
 kids:List Int
abbrev Dm:=Int->Option ig
def eP (M:Dm)(k:Int)(e:ig):Dm:=λi=>if i=k then some e else M i
def Oz (M:Dm)(k:Int):Dm:=λi=>if i=k then none else M i
def kV (M:Dm)(nx:Nat)(L:List ig):Dm:=λi=>if(nx:Int)<=i/\i<nx+L.length then L[(i-nx).toNat]? else M i
theorem a1f (M:Dm)(nx:Nat)(a b:List ig):kV (kV M nx a) (nx+a.length) b=kV M nx (a++b):=by
 funext i;unfold kV;grind
theorem a1g (M:Dm)(nx:Nat)(e:ig):kV M nx [e]=eP M nx e:=by
 funext i;unfold kV eP;grind
theorem Ym (M:Dm)(nx:Nat)(e a:ig)(L:List ig):eP (kV M nx (e::L)) nx a=kV M nx (a::L):=by
 funext i;unfold kV eP;grind
theorem Wq (M:Dm)(nx:Nat)(e:ig)(L:List ig):kV M nx (e::L) nx=some e:=by
 unfold kV;grind
theorem a1h {M:Dm}{nx:Nat}{L:List ig}{i:Int}(h:i<nx):kV M nx L i=M i:=by
 unfold kV;grind
theorem a1i {M:Dm}{nx j:Nat}{L:List ig}(h:j<L.length):kV M nx L ((nx:Int)+j)=L[j]? :=by
 unfold kV;grind
mutual
def jq:Nd->Nat
 | .mk _ _ ks=>og ks+1
def og:List Nd->Nat
 |[]=>0
 |n::l=>jq n+og l
end
theorem Ws (n:Nd):0<jq n:=by cases n;simp[jq]
theorem Fg:∀a b:List Nd,og (a++b)=og a+og b
 |[],b=>by simp[og]
 |n::a,b=>by simp[og,Fg a b];omega
def ym (k:Nat):List Nd->List Int
 |[]=>[]
 |n::l=>(k:Int)::ym (k+jq n) l
theorem OA:∀(a:List Nd) (k:Nat) (n:Nd),ym k (a++[n])=ym k a++[((k+og a:Nat):Int)]
 |[],k,n=>by simp[ym,og]
 |m::a,k,n=>by
  rw[gH,ym,OA a,ym,og];grind
mutual
def vG (k:Nat)(p:Int):Nd->List ig
 | .mk c a b=>⟨c,a,p,ym (k+1) b⟩::wB (k+1) k b
def wB (k:Nat)(p:Int):List Nd->List ig
 |[]=>[]
 |n::l=>vG k p n++wB (k+jq n) p l
end
mutual
theorem j6:∀(n:Nd) (k:Nat) (p:Int),(vG k p n).length=jq n
 | .mk c a b,k,p=>by rw[vG,jq,eZ,Ms b]
theorem Ms:∀(l:List Nd) (k:Nat) (p:Int),(wB k p l).length=og l
 |[],_,_=>rfl
 |n::l,k,p=>by rw[wB,og,dO,j6 n,Ms l]
end
theorem OB:∀(a:List Nd) (k:Nat) (p:Int) (n:Nd),wB k p (a++[n])=wB k p a++vG (k+og a) p n
 |[],k,p,n=>by simp[wB,og]
 |m::a,k,p,n=>by
  rw[gH,wB,OB a,wB,og];grind
def Dp (M:Dm):Nat->Int->Prop
 |0,_=>False
 |f+1,i=>∀e,M i=some e->∀k∈e.kids,Dp M f k
def pre (M:Dm):Nat->Int->Int->List (Int×Int)
 |0,_,_=>[]
 |f+1,i,d=>match M i with
  |none=>[]
  |some e=>(i,d)::e.kids.flatMap (λk=>pre M f k (d+1))
def lastB:Bs->Option (Bs×Bs)
 |[]=>none
 |c::s=>match lastB s with
  |some x=>some (c::x.1,x.2)
  |none=>if c=32 then some ([],s) else none
theorem oh:∀{s a b:Bs},lastB s=some (a,b)->s=a++32::b/\(32:UInt8) ∉ b
 |[],_,_,h=>by simp[lastB] at h
 |c::s,a,b,h=>by
  rw[lastB] at h;cases d:lastB s with
  |some x=>
   obtain⟨i,j⟩:=x;rw[d] at h;simp at h;obtain⟨rfl,rfl⟩:=h;obtain⟨e,k⟩:=oh d;grind
  |none=>
   rw[d] at h;simp only at h;split at h
   .rename_i f;cases h;refine⟨by rw[f];rfl,?_⟩;exact qO d
   .cases h
where
 qO:∀{s:Bs},lastB s=none->(32:UInt8) ∉ s
 |[],_=>aI
 |c::s,h=>by
  rw[lastB] at h;cases d:lastB s with
  |some x=>rw[d] at h;simp at h
  |none=>
   rw[d] at h;simp only at h;split at h
   .cases h
   .rename_i f;intro g;rcases gP.1 g with e|e
    .exact f e.symm
    .exact qO d e
theorem qO {s:Bs}(h:lastB s=none):(32:UInt8) ∉ s:=oh.qO h
def JH (a:Bs):Option Bs:=if a.drop (a.length-2)=[32,62] then some (a.take (a.length-2)) else none
theorem Yo {a x:Bs}(h:JH a=some x):a=x++[32,62]:=by
 unfold JH at h;split at h
 .rename_i b;cases h;have:=jS (a.length-2) a;grind
 .cases h
inductive Lk where
 |no
 |right
 |below
def Lk.bs:Lk->Bs
 | .no=>[]
 | .right=>[32,62,32]
 | .below=>[32]
def vQ (s:Bs):Bs×Lk×Bs:=match lastB s with
 |none=>([],.no,s)
 |some (a,b)=>match JH a with
  |some x=>(x,.right,b)
  |none=>(a,.below,b)
theorem tu {s a b:Bs}{k:Lk}(h:vQ s=(a,k,b))(e:k≠.no):a.length<s.length:=by
 unfold vQ at h;cases c:lastB s with
 |none=>rw[c] at h;cases h;exact absurd rfl e
 |some x=>
  obtain⟨f,g⟩:=x;obtain⟨i, -⟩:=oh c;rw[c] at h;simp only at h;cases d:JH f with
  |none=>
   grind
  |some y=>
   rw[d] at h;cases h;have j:=congrArg List.length (Yo d);grind
def sj:Nat->Bs->List Bs
 |0,_=>[]
 |f+1,s=>match vQ s with
  |(_,.no,b)=>[b]
  |(a,_,b)=>b::sj f a
def Yp (c:UInt8):Bool:=c==35||c==46||c==91
def iL:Bs->Option (Bs×UInt8×Bs)
 |[]=>none
 |c::s=>if Yp c then some ([],c,s) else match iL s with
  |some x=>some (c::x.1,x.2)
  |none=>none
theorem uF:∀{s a r:Bs} {m:UInt8},iL s=some (a,m,r)->s=a++m::r/\Yp m=true/\a.all (λc=> !Yp c)=true
 |[],_,_,_,h=>by simp[iL] at h
 |c::s,a,r,m,h=>by
  rw[iL] at h;split at h
  .rename_i d;grind
  .rename_i d;cases b:iL s with
   |none=>rw[b] at h;cases h
   |some x=>
    obtain⟨e,f,g⟩:=x;rw[b] at h;cases h;obtain⟨i,j,k⟩:=uF b;grind
def qP (k:UInt8)(s:Bs):Bs:=if k=91 then(if s.drop (s.length-1)=[93] then s.take (s.length-1) else[]) else s
def uG:Nat->UInt8->Bs->List (UInt8×Bs)
 |0,_,_=>[]
 |f+1,k,s=>match iL s with
  |none=>[(k,qP k s)]
  |some (a,m,r)=>(k,qP k a)::uG f m r
def Du (s:Bs):Bool:=s==[]||s==[42]
def TZ (x:UInt8×Bs):Bool:=(x.1==0 && Du x.2)||iQ x.2
def Dv:Nat->List (UInt8×Bs)->Bool
 |_,[]=>true
 |c,x::l=>decide ((if x.1=0 then c else c+1)<=8) && TZ x && Dv (if x.1=0 then c else c+1) l
def vH (s:Bs):List (UInt8×Bs):=uG (s.length+1) 0 s
def yF (s:Bs):Bool:=Dv 0 (vH s) && s !=[]
def Dw:Nat->List Bs->Bool
 |_,[]=>true
 |c,x::l=>decide (c+1<=5) && yF x && Dw (c+1) l
def jG (s:Bs):List Bs:=sj (s.length+1) s
def su (s:Bs):Bool:=Dw 0 (jG s)
def OE (x:UInt8×Bs):Nat:=if x.1=35 then 100 else if x.1=46\/x.1=91 then 10 else if Du x.2 then 0 else 1
def nQ (l:List (UInt8×Bs)):Nat:=(l.map OE).sum
def wtM (s:Bs):Nat:=((jG s).map λt=>nQ (vH t)).sum
def pQ (l:List (Bs×Bs))(nm:Bs):Option Bs:=(l.find? λa=>a.1==nm).map Prod.snd
def af4 (v nm:Bs):Bool:=Lib.containsS (Lib.splitB ⟨#[32]⟩ 0 (Lib.countB ⟨v.toArray⟩ ⟨#[32]⟩) ⟨v.toArray⟩) ⟨nm.toArray⟩
def Dx (e:ig)(x:UInt8×Bs):Bool:=
 if x.1=35 then(pQ e.ats [105,100]).getD []==x.2
 else if x.1=46 then af4 ((pQ e.ats [99,108,97,115,115]).getD []) x.2
 else if x.1=91 then(pQ e.ats x.2).isSome
 else Du x.2||e.name==x.2
def OG (M:Dm)(s:Bs)(n:Int):Bool:=match M n with
 |none=>false
 |some e=>e.name !=[] && (vH s).all (Dx e)
def lH (M:Dm):Nat->Int->List Int
 |0,_=>[]
 |f+1,n=>match M n with
  |none=>[]
  |some e=>if e.parent<0 then[] else e.parent::lH M f e.parent
def JI (M:Dm):Nat->Bs->Int->Bool
 |0,_,_=>false
 |f+1,s,n=>match vQ s with
  |(a,k,b)=>OG M b n && (match k with
   | .no=>true
   | .right=>JI M f a (match M n with|none=> -1|some e=>e.parent)
   | .below=>(lH M 11 n).any (JI M f a))
def oQ (M:Dm)(s:Bs)(n:Int):Bool:=JI M (s.length+1) s n
def yo (M:Dm)(n:Int):Int:=match M n with|none=> -1|some e=>e.parent
theorem rR:∀(f g:Nat) (s:Bs),s.length<f->s.length<g->sj f s=sj g s
 |0,_,_,h,_=>aa
 |_,0,_,_,h=>aa
 |f+1,g+1,s,e,i=>by
  obtain⟨a,k,b,c⟩:∃a k b,vQ s=(a,k,b):=⟨_,_,_,rfl⟩;rw[sj,sj,c];cases k with
  |no=>rfl
  |right=>
   have d:=tu c aI;simp only;rw[rR f g a aa aa]
  |below=>
   have d:=tu c aI;simp only;rw[rR f g a aa aa]
theorem OH {s a b:Bs}(h:vQ s=(a,.no,b)):jG s=[b]:=by
 rw[jG,sj,h]
theorem FQ {s a b:Bs}{k:Lk}(h:vQ s=(a,k,b))(c:k≠.no):jG s=b::jG a:=by
 have d:=tu h c;rw[jG,sj,h];cases k with
 |no=>exact absurd rfl c
 |right=>simp only;rw[jG,rR s.length (a.length+1) a d aa]
 |below=>simp only;rw[jG,rR s.length (a.length+1) a d aa]
theorem wC {s a r:Bs}{m:UInt8}(h:iL s=some (a,m,r)):r.length<s.length:=by
 have:=congrArg List.length (uF h).1;grind
theorem Dy:∀(f g:Nat) (k:UInt8) (s:Bs),s.length<f->s.length<g->uG f k s=uG g k s
 |0,_,_,_,h,_=>aa
 |_,0,_,_,_,h=>aa
 |f+1,g+1,k,s,c,d=>by
  rw[uG,uG];cases b:iL s with
  |none=>rfl
  |some x=>
   obtain⟨a,m,r⟩:=x;have:=wC b;simp only;rw[Dy f g m r aa aa]
def pts (k:UInt8)(s:Bs):List (UInt8×Bs):=uG (s.length+1) k s
theorem a1j {k:UInt8}{s:Bs}(h:iL s=none):pts k s=[(k,qP k s)]:=by
 rw[pts,uG,h]
theorem OI {k m:UInt8}{s a r:Bs}(h:iL s=some (a,m,r)):pts k s=(k,qP k a)::pts m r:=by
 have:=wC h;rw[pts,uG,h];simp only;rw[pts,Dy s.length (r.length+1) m r aa aa]
theorem OJ (k:UInt8)(s:Bs):(qP k s).length<=s.length:=by
 unfold qP;grind
theorem Ky {s a b:Bs}{k:Lk}(h:vQ s=(a,k,b)):b.length<=s.length:=by
 unfold vQ at h;cases c:lastB s with
 |none=>rw[c] at h;cases h;exact bJ _
 |some x=>
  obtain⟨d,e⟩:=x;obtain⟨f, -⟩:=oh c;grind
theorem Yq (a b:List (UInt8×Bs)):nQ (a++b)=nQ a+nQ b:=by
 unfold nQ;grind
structure Rl where
 wh:Bs
 nm:Bs
 vl:Bs
def wD:Bs:=[102,105,108,108]
def Ad:Bs:=[115,104,111,119]
def yG:Bs:=[114,117,108,101]
def uH:Bs:=[108,101,118,101,108]
def firstM (s:Bs):Bs:=if s=wD then[110,111,110,101] else if s=Ad then[121,101,115] else if s=yG then[119,105,110,100] else if s=uH then[48] else[]
def Dz (s:Bs):Bool:=firstM s !=[]
def Kz (s:Bs):Bool:=s==wD||s==yG
def Yr (x:Nat):Bool:= !((decide (97<=x) && decide (x<=122))||(decide (48<=x) && decide (x<=57))||x==45)
def zh (s:Bs):Bool:=s !=[] && decide (s.length<=12) && !decide (0<=Lib.idxFunc Yr true ⟨s.toArray⟩)
def vI (l:Bs):Option Rl:=
 if(Lib.cut l [32,123,32]).2.2 && Lib.hasSuffix (Lib.cut l [32,123,32]).2.1 [32,125] && (Lib.cut (Lib.trimSuffix (Lib.cut l [32,123,32]).2.1 [32,125]) [58,32]).2.2 && Dz (Lib.cut (Lib.trimSuffix (Lib.cut l [32,123,32]).2.1 [32,125]) [58,32]).1 && zh (Lib.cut (Lib.trimSuffix (Lib.cut l [32,123,32]).2.1 [32,125]) [58,32]).2.1 && su (Lib.cut l [32,123,32]).1 then
  some ⟨(Lib.cut l [32,123,32]).1,(Lib.cut (Lib.trimSuffix (Lib.cut l [32,123,32]).2.1 [32,125]) [58,32]).1,(Lib.cut (Lib.trimSuffix (Lib.cut l [32,123,32]).2.1 [32,125]) [58,32]).2.1⟩
 else none
def U4:Nat->List Rl->Bs->Except Nat (List Rl)
 |0,a,_=>.ok a
 |f+1,a,s=>if s=[] then .ok a else match vI (Lib.cut s [10]).1 with
  |none=>.error a.length
  |some r=>if(Lib.cut s [10]).2.2 then U4 f (a++[r]) (Lib.cut s [10]).2.1 else .error a.length
def Mt (s:Bs):Except Nat (List Rl):=U4 (s.length+1) [] s
theorem Wt (s a:Bs)(h:(Lib.cut s a).2.2=true)(hs:a≠[]):(Lib.cut s a).2.1.length<s.length:=by
 unfold Lib.cut at h⊢;split
 .next b=>
  have c:=Lib.index_room s a b;have d:0<a.length:=by grind
  grind
 .next b=>rw[aG b] at h;simp at h
theorem oU (s a:Bs):(Lib.cut s a).1.length<=s.length:=by
 unfold Lib.cut;grind
theorem wE (s a:Bs):(Lib.cut s a).2.1.length<=s.length:=by
 unfold Lib.cut;grind
theorem Yt (s p:Bs):(Lib.trimSuffix s p).length<=s.length:=by
 unfold Lib.trimSuffix;grind
theorem Wu (f:Nat)(a:List Rl):U4 f a []=.ok a:=by cases f<;>simp[U4]
theorem Wv {f:Nat}{a:List Rl}{s:Bs}(hs:s≠[])(b:vI (Lib.cut s [10]).1=none):U4 (f+1) a s=.error a.length:=by
 rw[U4,aG hs,b]
theorem OL {f:Nat}{a:List Rl}{s:Bs}(hs:s≠[])(b:(Lib.cut s [10]).2.2=false):U4 (f+1) a s=.error a.length:=by
 rw[U4,aG hs];grind
theorem OM {f:Nat}{a:List Rl}{s:Bs}{r:Rl}(hs:s≠[])(b:vI (Lib.cut s [10]).1=some r)(he:(Lib.cut s [10]).2.2=true):U4 (f+1) a s=U4 f (a++[r]) (Lib.cut s [10]).2.1:=by
 rw[U4,aG hs,b];simp[he]
def EH (r:Rl):Prop:=su r.wh=true/\Dz r.nm=true/\zh r.vl=true/\r.wh.length<=1000000
theorem a1k {l:Bs}{r:Rl}(b:l.length<=1000000)(h:vI l=some r):EH r:=by
 unfold vI at h;split at h
 .next a=>
  simp only[jg] at a;cases h;exact⟨a.2,a.1.1.2,a.1.2,bO (oU _ _) b⟩
 .cases h
theorem a1l:∀(f:Nat) (a:List Rl) (s:Bs) (l:List Rl),s.length<=1000000->(∀r∈a,EH r)->U4 f a s=.ok l->∀r∈l,EH r
 |0,a,s,l,_,c,h=>by rw[U4] at h;cases h;exact c
 |f+1,a,s,l,g,c,h=>by
  by_cases d:s=[]
  .subst d;rw[Wu] at h;cases h;exact c
  .cases e:vI (Lib.cut s [10]).1 with
   |none=>rw[Wv d e] at h;cases h
   |some r=>
    cases i:(Lib.cut s [10]).2.2 with
    |false=>rw[OL d i] at h;cases h
    |true=>
     rw[OM d e i] at h;refine a1l f _ _ l (bO (wE _ _) g) (λx b=>?_) h;rcases iw.1 b with b|b
     .exact c x b
     .rw[List.mem_singleton.1 b];exact a1k (bO (oU _ _) g) e
def lI (p:Rl->Bool)(a:Bs×Bool×Nat)(r:Rl):Bs×Bool×Nat:=if decide (a.2.2<=wtM r.wh) && p r then(r.vl,true,wtM r.wh) else a
def JC (p:Rl->Bool)(l:List Rl):Bs×Bool×Nat:=l.foldl (lI p) ([],false,0)
theorem a1m (p:Rl->Bool)(l:List Rl)(r:Rl):JC p (l++[r])=lI p (JC p l) r:=by
 unfold JC;grind
theorem KF {p:Rl->Bool}{a:Bs×Bool×Nat}{r:Rl}(h:p r=false):lI p a r=a:=by unfold lI;rw[h];simp
theorem FT {p:Rl->Bool}{a:Bs×Bool×Nat}{r:Rl}(h:¬a.2.2<=wtM r.wh):lI p a r=a:=by unfold lI;rw[iU h];simp
theorem FU {p:Rl->Bool}{a:Bs×Bool×Nat}{r:Rl}(h:a.2.2<=wtM r.wh)(hp:p r=true):lI p a r=(r.vl,true,wtM r.wh):=by unfold lI;rw[decide_eq_true h,hp];simp
def EI (M:Dm)(n:Int)(nm:Bs):Option Bs:=match M n with|none=>none|some e=>pQ e.ats nm
def sw (M:Dm)(nm:Bs)(n:Int)(r:Rl):Bool:=r.nm==nm && oQ M r.wh n
def yH (M:Dm)(l:List Rl)(nm:Bs)(n:Int):Option Bs:=match EI M n nm with
 |some v=>some v
 |none=>if(JC (sw M nm n) l).2.1 then some (JC (sw M nm n) l).1 else none
def Mw (M:Dm)(l:List Rl)(nm:Bs):Nat->Int->Bs
 |0,_=>firstM nm
 |f+1,n=>if n<0 then firstM nm else match yH M l nm n with
  |some v=>v
  |none=>if Kz nm then Mw M l nm f (yo M n) else firstM nm
def ofM (M:Dm)(l:List Rl)(nm:Bs)(n:Int):Bs:=if(M n).isSome && Dz nm then Mw M l nm 12 n else[]

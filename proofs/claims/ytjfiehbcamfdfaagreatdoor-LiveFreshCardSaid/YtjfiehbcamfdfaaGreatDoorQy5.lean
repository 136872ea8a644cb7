/-
  Parts of the proof.
-/
import Derived.Lib.Split
import Derived.Lib.SlicesS
import Derived.Shelf.GgClosure.StringsIndexFunc
import Derived.Test.YtjfiehbcamfdfaaGreatDoorQyb
namespace Go.Proofs.YtjfiehbcamfdfaaGreatDoor
section
abbrev Bs:=List UInt8
inductive Nd where
  |mk (name:Bs) (attrs:List (Bs×Bs)) (kids:List Nd)
def zS (c:UInt8):Bs:=if c=60 then[38,108,116,59] else if c=62 then[38,103,116,59] else if c=38 then[38,97,109,112,59] else if c=34 then[38,113,117,111,116,59] else[c]
def qB:Bs->Bs
  |[]=>[]
  |c::v=>zS c++qB v
def atT (a:Bs×Bs):Bs:=32::(a.1++61::34::(qB a.2++[34]))
def aaF:List (Bs×Bs)->Bs
  |[]=>[]
  |a::l=>atT a++aaF l
mutual
def txt:Nd->Bs
  | .mk nm Cr ks=>60::(nm++(aaF Cr++(match ks with
    |[]=>[47,62]
    |k::l=>62::(txt k++(jT l++60::47::(nm++[62]))))))
def jT:List Nd->Bs
  |[]=>[]
  |k::l=>txt k++jT l
end
def yG (c:UInt8):Bool:=decide (97<=c) && decide (c<=122)
def LK (c:UInt8):Bool:=decide (48<=c) && decide (c<=57)
def I5 (c:UInt8):Bool:=yG c||LK c||c==45
def fo (s:Bs):Bool:=match s with
  |[]=>false
  |c::r=>decide ((c::r).length<=12) && yG c && r.all I5
def isVal (s:Bs):Bool:=decide (s.length<=200) && s.all (fun c=> !(decide (c<32)) && !(decide (126<c)))
structure Fl where
  name:Bs
  attrs:List (Bs×Bs)
  parent:Int
  deep:Nat
mutual
def nu (k:Nat)(p:Int)(d:Nat):Nd->List Fl
  | .mk nm Cr ks=>⟨nm,Cr,p,d⟩::sI (k+1) k (d+1) ks
def sI (k:Nat)(p:Int)(d:Nat):List Nd->List Fl
  |[]=>[]
  |n::l=>nu k p d n++sI (k+(nu k p d n).length) p d l
end
theorem uP (k:Nat)(p:Int)(d:Nat)(n:Nd):∃f r,nu k p d n=f::r/\f.parent=p:=by
  cases n with
  |mk nm Cr ks=>exact⟨_,_,by rw[nu],rfl⟩
end
section
structure iy where
  name:Bs
  ats:List (Bs×Bs)
  parent:Int
  kids:List Int
abbrev Dm:=Int->Option iy
def gH (M:Dm)(k:Int)(e:iy):Dm:=fun i=>if i=k then some e else M i
def a2b (M:Dm)(k:Int):Dm:=fun i=>if i=k then none else M i
def zU (M:Dm)(nx:Nat)(L:List iy):Dm:=fun i=>if(nx:Int)<=i/\i<nx+L.length then L[(i-nx).toNat]? else M i
theorem U9 (M:Dm)(nx:Nat)(a b:List iy):zU (zU M nx a) (nx+a.length) b=zU M nx (a++b):=by
  funext i;unfold zU;simp only[List.length_append];by_cases h1:((nx+a.length:Nat):Int)<=i/\i<((nx+a.length:Nat):Int)+b.length
  · rw[if_pos h1,if_pos (by omega),List.getElem?_append_right (by omega)]
    congr 1;omega
  · rw[if_neg h1]
    by_cases h2:(nx:Int)<=i/\i<nx+a.length
    · rw[if_pos h2,if_pos (by omega),List.getElem?_append_left (by omega)]
    · rw[if_neg h2,if_neg (by omega)]
theorem Ua (M:Dm)(nx:Nat)(e:iy):zU M nx [e]=gH M nx e:=by
  funext i;unfold zU gH;by_cases h:i=nx
  · subst h
    rw[if_pos (by simp only[List.length_cons,List.length_nil];omega),if_pos rfl];simp
  · rw[if_neg (by simp only[List.length_cons,List.length_nil];omega),if_neg h]
theorem Qd (M:Dm)(nx:Nat)(e e':iy)(L:List iy):gH (zU M nx (e::L)) nx e'=zU M nx (e'::L):=by
  funext i;unfold zU gH;by_cases h:i=nx
  · subst h
    rw[if_pos rfl,if_pos (by simp only[List.length_cons];omega)];simp
  · rw[if_neg h]
    show(if(nx:Int)<=i/\i<nx+(e::L).length then(e::L)[(i-nx).toNat]? else M i)=_;by_cases h2:(nx:Int)<=i/\i<nx+(e::L).length
    · rw[if_pos h2,if_pos (by simpa using h2)]
      obtain⟨j,hj⟩:∃j:Nat,(i-nx).toNat=j+1:=⟨(i-nx).toNat-1,by omega⟩;rw[hj];simp
    · rw[if_neg h2,if_neg (by simpa using h2)]
theorem O6 (M:Dm)(nx:Nat)(e:iy)(L:List iy):zU M nx (e::L) nx=some e:=by
  unfold zU;rw[if_pos (by simp only[List.length_cons];omega)];simp
theorem Ub {M:Dm}{nx:Nat}{L:List iy}{i:Int}(h:i<nx):zU M nx L i=M i:=by
  unfold zU;rw[if_neg (by omega)]
theorem I7 {M:Dm}{nx j:Nat}{L:List iy}(h:j<L.length):zU M nx L ((nx:Int)+j)=L[j]? :=by
  unfold zU;rw[if_pos (by omega)];congr 1;omega
mutual
def dQ:Nd->Nat
  | .mk _ _ ks=>iO ks+1
def iO:List Nd->Nat
  |[]=>0
  |n::l=>dQ n+iO l
end
theorem O7 (n:Nd):0<dQ n:=by cases n;simp[dQ]
theorem yU:∀a b:List Nd,iO (a++b)=iO a+iO b
  |[],b=>by simp[iO]
  |n::a,b=>by simp[iO,yU a b];omega
def oh (k:Nat):List Nd->List Int
  |[]=>[]
  |n::l=>(k:Int)::oh (k+dQ n) l
theorem I8:∀(a:List Nd) (k:Nat) (n:Nd),oh k (a++[n])=oh k a++[((k+iO a:Nat):Int)]
  |[],k,n=>by simp[oh,iO]
  |m::a,k,n=>by
    rw[List.cons_append,oh,I8 a,oh,iO];simp[Nat.add_assoc]
mutual
def mP (k:Nat)(p:Int):Nd->List iy
  | .mk nm Cr ks=>⟨nm,Cr,p,oh (k+1) ks⟩::NF (k+1) k ks
def NF (k:Nat)(p:Int):List Nd->List iy
  |[]=>[]
  |n::l=>mP k p n++NF (k+dQ n) p l
end
mutual
theorem dN:∀(n:Nd) (k:Nat) (p:Int),(mP k p n).length=dQ n
  | .mk nm Cr ks,k,p=>by rw[mP,dQ,List.length_cons,F4 ks]
theorem F4:∀(l:List Nd) (k:Nat) (p:Int),(NF k p l).length=iO l
  |[],_,_=>rfl
  |n::l,k,p=>by rw[NF,iO,List.length_append,dN n,F4 l]
end
mutual
theorem O8:∀(n:Nd) (k:Nat) (p:Int) (d:Nat),(nu k p d n).length=dQ n
  | .mk nm Cr ks,k,p,d=>by rw[nu,dQ,List.length_cons,O9 ks]
theorem O9:∀(l:List Nd) (k:Nat) (p:Int) (d:Nat),(sI k p d l).length=iO l
  |[],_,_,_=>rfl
  |n::l,k,p,d=>by rw[sI,iO,List.length_append,O8 n,O9 l]
end
theorem I9:∀(a:List Nd) (k:Nat) (p:Int) (n:Nd),NF k p (a++[n])=NF k p a++mP (k+iO a) p n
  |[],k,p,n=>by simp[NF,iO]
  |m::a,k,p,n=>by
    rw[List.cons_append,NF,I9 a,NF,iO];simp[Nat.add_assoc]
def Dp (M:Dm):Nat->Int->Prop
  |0,_=>False
  |f+1,i=>∀e,M i=some e->∀k∈e.kids,Dp M f k
def pre (M:Dm):Nat->Int->Int->List (Int×Int)
  |0,_,_=>[]
  |f+1,i,d=>match M i with
    |none=>[]
    |some e=>(i,d)::e.kids.flatMap (fun k=>pre M f k (d+1))
end
section
def lastB:Bs->Option (Bs×Bs)
  |[]=>none
  |c::s=>match lastB s with
    |some x=>some (c::x.1,x.2)
    |none=>if c=32 then some ([],s) else none
def Cu (a:Bs):Option Bs:=if a.drop (a.length-2)=[32,62] then some (a.take (a.length-2)) else none
inductive Lk where
  |no
  |right
  |below
def Lk.bs:Lk->Bs
  | .no=>[]
  | .right=>[32,62,32]
  | .below=>[32]
def pW (s:Bs):Bs×Lk×Bs:=match lastB s with
  |none=>([],.no,s)
  |some (a,b)=>match Cu a with
    |some x=>(x,.right,b)
    |none=>(a,.below,b)
def mD:Nat->Bs->List Bs
  |0,_=>[]
  |f+1,s=>match pW s with
    |(_,.no,b)=>[b]
    |(a,_,b)=>b::mD f a
def Qf (c:UInt8):Bool:=c==35||c==46||c==91
def dO:Bs->Option (Bs×UInt8×Bs)
  |[]=>none
  |c::s=>if Qf c then some ([],c,s) else match dO s with
    |some x=>some (c::x.1,x.2)
    |none=>none
def jU (k:UInt8)(s:Bs):Bs:=if k=91 then(if s.drop (s.length-1)=[93] then s.take (s.length-1) else[]) else s
def oz:Nat->UInt8->Bs->List (UInt8×Bs)
  |0,_,_=>[]
  |f+1,k,s=>match dO s with
    |none=>[(k,jU k s)]
    |some (a,m,r)=>(k,jU k a)::oz f m r
def zT (s:Bs):Bool:=s==[]||s==[42]
def a2m (x:UInt8×Bs):Bool:=(x.1==0 && zT x.2)||fo x.2
def a1o:Nat->List (UInt8×Bs)->Bool
  |_,[]=>true
  |c,x::l=>decide ((if x.1=0 then c else c+1)<=8) && a2m x && a1o (if x.1=0 then c else c+1) l
def Dz (s:Bs):List (UInt8×Bs):=oz (s.length+1) 0 s
def a6w (s:Bs):Bool:=a1o 0 (Dz s) && s !=[]
def a1p:Nat->List Bs->Bool
  |_,[]=>true
  |c,x::l=>decide (c+1<=5) && a6w x && a1p (c+1) l
def fM (s:Bs):List Bs:=mD (s.length+1) s
def a2n (s:Bs):Bool:=a1p 0 (fM s)
def Ia (x:UInt8×Bs):Nat:=if x.1=35 then 100 else if x.1=46\/x.1=91 then 10 else if zT x.2 then 0 else 1
def jl (l:List (UInt8×Bs)):Nat:=(l.map Ia).sum
def Ye (s:Bs):Nat:=((fM s).map fun t=>jl (Dz t)).sum
def iK (l:List (Bs×Bs))(nm:Bs):Option Bs:=(l.find? fun a=>a.1==nm).map Prod.snd
def aap (v nm:Bs):Bool:=Lib.containsS (Lib.splitB ⟨#[32]⟩ 0 (Lib.countB ⟨v.toArray⟩ ⟨#[32]⟩) ⟨v.toArray⟩) ⟨nm.toArray⟩
def a6x (e:iy)(x:UInt8×Bs):Bool:=
  if x.1=35 then(iK e.ats [105,100]).getD []==x.2
  else if x.1=46 then aap ((iK e.ats [99,108,97,115,115]).getD []) x.2
  else if x.1=91 then(iK e.ats x.2).isSome
  else zT x.2||e.name==x.2
def a1q (M:Dm)(s:Bs)(n:Int):Bool:=match M n with
  |none=>false
  |some e=>e.name !=[] && (Dz s).all (a6x e)
def Uc (M:Dm):Nat->Int->List Int
  |0,_=>[]
  |f+1,n=>match M n with
    |none=>[]
    |some e=>if e.parent<0 then[] else e.parent::Uc M f e.parent
def Cv (M:Dm):Nat->Bs->Int->Bool
  |0,_,_=>false
  |f+1,s,n=>match pW s with
    |(a,k,b)=>a1q M b n && (match k with
      | .no=>true
      | .right=>Cv M f a (match M n with|none=> -1|some e=>e.parent)
      | .below=>(Uc M 11 n).any (Cv M f a))
end
section
def Oa (M:Dm)(s:Bs)(n:Int):Bool:=Cv M (s.length+1) s n
def qC (M:Dm)(n:Int):Int:=match M n with|none=> -1|some e=>e.parent
end
section
def pts (k:UInt8)(s:Bs):List (UInt8×Bs):=oz (s.length+1) k s
end
section
structure Rl where
  wh:Bs
  nm:Bs
  vl:Bs
def sJ:Bs:=[102,105,108,108]
def eX:Bs:=[115,104,111,119]
def uQ:Bs:=[114,117,108,101]
def oC:Bs:=[108,101,118,101,108]
def firstM (s:Bs):Bs:=if s=sJ then[110,111,110,101] else if s=eX then[121,101,115] else if s=uQ then[119,105,110,100] else if s=oC then[48] else[]
def a1P (s:Bs):Bool:=firstM s !=[]
def DI (s:Bs):Bool:=s==sJ||s==uQ
def aaq (x:Nat):Bool:= !((decide (97<=x) && decide (x<=122))||(decide (48<=x) && decide (x<=57))||x==45)
def Ue (s:Bs):Bool:=s !=[] && decide (s.length<=12) && !decide (0<=Lib.idxFunc aaq true ⟨s.toArray⟩)
def LM (r:Rl):Prop:=a2n r.wh=true/\a1P r.nm=true/\Ue r.vl=true/\r.wh.length<=1000000
def j5 (p:Rl->Bool)(a:Bs×Bool×Nat)(r:Rl):Bs×Bool×Nat:=if decide (a.2.2<=Ye r.wh) && p r then(r.vl,true,Ye r.wh) else a
def yH (p:Rl->Bool)(l:List Rl):Bs×Bool×Nat:=l.foldl (j5 p) ([],false,0)
theorem Uf (p:Rl->Bool)(l:List Rl)(r:Rl):yH p (l++[r])=j5 p (yH p l) r:=by
  unfold yH;rw[List.foldl_append];rfl
theorem DJ {p:Rl->Bool}{a:Bs×Bool×Nat}{r:Rl}(h:p r=false):j5 p a r=a:=by unfold j5;rw[h];simp
theorem zX {p:Rl->Bool}{a:Bs×Bool×Nat}{r:Rl}(h:¬a.2.2<=Ye r.wh):j5 p a r=a:=by unfold j5;rw[decide_eq_false h];simp
theorem zY {p:Rl->Bool}{a:Bs×Bool×Nat}{r:Rl}(h:a.2.2<=Ye r.wh)(hp:p r=true):j5 p a r=(r.vl,true,Ye r.wh):=by unfold j5;rw[decide_eq_true h,hp];simp
def atM (M:Dm)(n:Int)(nm:Bs):Option Bs:=match M n with|none=>none|some e=>iK e.ats nm
def qE (M:Dm)(nm:Bs)(n:Int)(r:Rl):Bool:=r.nm==nm && Oa M r.wh n
def sM (M:Dm)(l:List Rl)(nm:Bs)(n:Int):Option Bs:=match atM M n nm with
  |some v=>some v
  |none=>if(yH (qE M nm n) l).2.1 then some (yH (qE M nm n) l).1 else none
def DR (M:Dm)(l:List Rl)(nm:Bs):Nat->Int->Bs
  |0,_=>firstM nm
  |f+1,n=>if n<0 then firstM nm else match sM M l nm n with
    |some v=>v
    |none=>if DI nm then DR M l nm f (qC M n) else firstM nm
def ofM (M:Dm)(l:List Rl)(nm:Bs)(n:Int):Bs:=if(M n).isSome && a1P nm then DR M l nm 12 n else[]
end
end Go.Proofs.YtjfiehbcamfdfaaGreatDoor

/- Parts of the proof. -/
import Derived.Lib.Split
import Derived.Lib.SlicesS
import Derived.Shelf.GgClosure.StringsIndexFunc
import Derived.Test.YtecneflbncjhpaaGreatDoorQpb
namespace Go.Proofs.YtecneflbncjhpaaGreatDoor
section
abbrev Bs:=List UInt8
inductive Nd where
 |mk (name:Bs) (attrs:List (Bs×Bs)) (kids:List Nd)
def SY (c:UInt8):Bs:=if c=60 then[38,108,116,59] else if c=62 then[38,103,116,59] else if c=38 then[38,97,109,112,59] else if c=34 then[38,113,117,111,116,59] else[c]
def kP:Bs->Bs
 |[]=>[]
 |c::v=>SY c++kP v
def atT (a:Bs×Bs):Bs:=32::(a.1++61::34::(kP a.2++[34]))
def iE:List (Bs×Bs)->Bs
 |[]=>[]
 |a::l=>atT a++iE l
mutual
def txt:Nd->Bs
 | .mk nm Vx ks=>60::(nm++(iE Vx++(match ks with
  |[]=>[47,62]
  |k::l=>62::(txt k++(jw l++60::47::(nm++[62]))))))
def jw:List Nd->Bs
 |[]=>[]
 |k::l=>txt k++jw l
end
theorem GL (nm:Bs)(Vx:List (Bs×Bs)):txt (.mk nm Vx [])=60::(nm++(iE Vx++[47,62])):=by simp[txt]
theorem Bj (nm:Bs)(Vx:List (Bs×Bs))(k:Nd)(l:List Nd):txt (.mk nm Vx (k::l))=60::(nm++(iE Vx++62::(jw (k::l)++60::47::(nm++[62])))):=by simp[txt,jw]
def zP (c:UInt8):Bool:=decide (97<=c) && decide (c<=122)
def NS (c:UInt8):Bool:=decide (48<=c) && decide (c<=57)
def Vy (c:UInt8):Bool:=zP c||NS c||c==45
def gG (s:Bs):Bool:=match s with
 |[]=>false
 |c::r=>decide ((c::r).length<=12) && zP c && r.all Vy
def isVal (s:Bs):Bool:=decide (s.length<=200) && s.all (fun c=> !(decide (c<32)) && !(decide (126<c)))
structure Fl where
 name:Bs
 attrs:List (Bs×Bs)
 parent:Int
 deep:Nat
structure gH where
 name:Bs
 ats:List (Bs×Bs)
 parent:Int
 kids:List Int
abbrev Dm:=Int->Option gH
def dZ (M:Dm)(k:Int)(e:gH):Dm:=fun i=>if i=k then some e else M i
def JE (M:Dm)(k:Int):Dm:=fun i=>if i=k then none else M i
def iU (M:Dm)(nx:Nat)(L:List gH):Dm:=fun i=>if(nx:Int)<=i/\i<nx+L.length then L[(i-nx).toNat]? else M i
theorem Ws (M:Dm)(nx:Nat)(a b:List gH):iU (iU M nx a) (nx+a.length) b=iU M nx (a++b):=by
 funext i;unfold iU;simp only[List.length_append];by_cases h1:((nx+a.length:Nat):Int)<=i/\i<((nx+a.length:Nat):Int)+b.length
 ·rw[if_pos h1,if_pos (by omega),iK (by omega)];congr 1;omega
 ·rw[if_neg h1];by_cases h2:(nx:Int)<=i/\i<nx+a.length
  ·rw[if_pos h2,if_pos (by omega),List.getElem?_append_left (by omega)]
  ·rw[if_neg h2,if_neg (by omega)]
theorem Wt (M:Dm)(nx:Nat)(e:gH):iU M nx [e]=dZ M nx e:=by
 funext i;unfold iU dZ;by_cases h:i=nx
 ·subst h;rw[if_pos (by simp only[List.length_cons,List.length_nil];omega),if_pos rfl];simp
 ·rw[if_neg (by simp only[List.length_cons,List.length_nil];omega),if_neg h]
theorem T9 (M:Dm)(nx:Nat)(e e':gH)(L:List gH):dZ (iU M nx (e::L)) nx e'=iU M nx (e'::L):=by
 funext i;unfold iU dZ;by_cases h:i=nx
 ·subst h;rw[if_pos rfl,if_pos (by simp only[List.length_cons];omega)];simp
 ·rw[if_neg h];show(if(nx:Int)<=i/\i<nx+(e::L).length then(e::L)[(i-nx).toNat]? else M i)=_;by_cases h2:(nx:Int)<=i/\i<nx+(e::L).length
  ·rw[if_pos h2,if_pos (by simpa using h2)];obtain⟨j,hj⟩:∃j:Nat,(i-nx).toNat=j+1:=⟨(i-nx).toNat-1,by omega⟩;rw[hj];simp
  ·rw[if_neg h2,if_neg (by simpa using h2)]
theorem Ql (M:Dm)(nx:Nat)(e:gH)(L:List gH):iU M nx (e::L) nx=some e:=by
 unfold iU;rw[if_pos (by simp only[List.length_cons];omega)];simp
theorem Wu {M:Dm}{nx:Nat}{L:List gH}{i:Int}(h:i<nx):iU M nx L i=M i:=by
 unfold iU;rw[if_neg (by omega)]
theorem Wv {M:Dm}{nx j:Nat}{L:List gH}(h:j<L.length):iU M nx L ((nx:Int)+j)=L[j]? :=by
 unfold iU;rw[if_pos (by omega)];congr 1;omega
mutual
def gz:Nd->Nat
 | .mk _ _ ks=>jK ks+1
def jK:List Nd->Nat
 |[]=>0
 |n::l=>gz n+jK l
end
theorem Qm (n:Nd):0<gz n:=by cases n;simp[gz]
theorem A8:∀a b:List Nd,jK (a++b)=jK a+jK b
 |[],b=>by simp[jK]
 |n::a,b=>by simp[jK,A8 a b];omega
def tL (k:Nat):List Nd->List Int
 |[]=>[]
 |n::l=>(k:Int)::tL (k+gz n) l
theorem JF:∀(a:List Nd) (k:Nat) (n:Nd),tL k (a++[n])=tL k a++[((k+jK a:Nat):Int)]
 |[],k,n=>by simp[tL,jK]
 |m::a,k,n=>by
  rw[List.cons_append,tL,JF a,tL,jK];simp[Nat.add_assoc]
mutual
def qo (k:Nat)(p:Int):Nd->List gH
 | .mk nm Vx ks=>⟨nm,Vx,p,tL (k+1) ks⟩::qU (k+1) k ks
def qU (k:Nat)(p:Int):List Nd->List gH
 |[]=>[]
 |n::l=>qo k p n++qU (k+gz n) p l
end
mutual
theorem gp:∀(n:Nd) (k:Nat) (p:Int),(qo k p n).length=gz n
 | .mk nm Vx ks,k,p=>by rw[qo,gz,List.length_cons,GN ks]
theorem GN:∀(l:List Nd) (k:Nat) (p:Int),(qU k p l).length=jK l
 |[],_,_=>rfl
 |n::l,k,p=>by rw[qU,jK,List.length_append,gp n,GN l]
end
theorem JG:∀(a:List Nd) (k:Nat) (p:Int) (n:Nd),qU k p (a++[n])=qU k p a++qo (k+jK a) p n
 |[],k,p,n=>by simp[qU,jK]
 |m::a,k,p,n=>by
  rw[List.cons_append,qU,JG a,qU,jK];simp[Nat.add_assoc]
def Dp (M:Dm):Nat->Int->Prop
 |0,_=>False
 |f+1,i=>∀e,M i=some e->∀k∈e.kids,Dp M f k
def pre (M:Dm):Nat->Int->Int->List (Int×Int)
 |0,_,_=>[]
 |f+1,i,d=>match M i with
  |none=>[]
  |some e=>(i,d)::e.kids.flatMap (fun k=>pre M f k (d+1))
def lastB:Bs->Option (Bs×Bs)
 |[]=>none
 |c::s=>match lastB s with
  |some x=>some (c::x.1,x.2)
  |none=>if c=32 then some ([],s) else none
theorem jY:∀{s a b:Bs},lastB s=some (a,b)->s=a++32::b/\(32:UInt8) ∉ b
 |[],_,_,h=>by simp[lastB] at h
 |c::s,a,b,h=>by
  rw[lastB] at h;cases hs:lastB s with
  |some x=>
   obtain⟨x1,x2⟩:=x;rw[hs] at h;simp at h;obtain⟨rfl,rfl⟩:=h;obtain⟨h1,h2⟩:=jY hs;exact⟨by rw[h1];rfl,h2⟩
  |none=>
   rw[hs] at h;simp only at h;split at h
   ·rename_i hc;cases h;refine⟨by rw[hc];rfl,?_⟩;exact lY hs
   ·cases h
where
 lY:∀{s:Bs},lastB s=none->(32:UInt8) ∉ s
 |[],_=>by simp
 |c::s,h=>by
  rw[lastB] at h;cases hs:lastB s with
  |some x=>rw[hs] at h;simp at h
  |none=>
   rw[hs] at h;simp only at h;split at h
   ·cases h
   ·rename_i hc;intro hm;rcases List.mem_cons.1 hm with h1|h1
    ·exact hc h1.symm
    ·exact lY hs h1
theorem lY {s:Bs}(h:lastB s=none):(32:UInt8) ∉ s:=jY.lY h
def Ei (a:Bs):Option Bs:=if a.drop (a.length-2)=[32,62] then some (a.take (a.length-2)) else none
theorem Ta {a x:Bs}(h:Ei a=some x):a=x++[32,62]:=by
 unfold Ei at h;split at h
 ·rename_i hd;cases h;have:=List.take_append_drop (a.length-2) a;rw[hd] at this;exact this.symm
 ·cases h
inductive Lk where
 |no
 |right
 |below
def Lk.bs:Lk->Bs
 | .no=>[]
 | .right=>[32,62,32]
 | .below=>[32]
def qB (s:Bs):Bs×Lk×Bs:=match lastB s with
 |none=>([],.no,s)
 |some (a,b)=>match Ei a with
  |some x=>(x,.right,b)
  |none=>(a,.below,b)
theorem nR {s a b:Bs}{k:Lk}(h:qB s=(a,k,b))(hk:k≠.no):a.length<s.length:=by
 unfold qB at h;cases hs:lastB s with
 |none=>rw[hs] at h;cases h;exact absurd rfl hk
 |some x=>
  obtain⟨x1,x2⟩:=x;obtain⟨h1, -⟩:=jY hs;rw[hs] at h;simp only at h;cases hg:Ei x1 with
  |none=>
   rw[hg] at h;cases h;rw[h1,List.length_append,List.length_cons];omega
  |some y=>
   rw[hg] at h;cases h;have h2:=congrArg List.length (Ta hg);rw[h1,List.length_append,List.length_cons];rw[List.length_append] at h2;omega
def nu:Nat->Bs->List Bs
 |0,_=>[]
 |f+1,s=>match qB s with
  |(_,.no,b)=>[b]
  |(a,_,b)=>b::nu f a
def Tc (c:UInt8):Bool:=c==35||c==46||c==91
def fE:Bs->Option (Bs×UInt8×Bs)
 |[]=>none
 |c::s=>if Tc c then some ([],c,s) else match fE s with
  |some x=>some (c::x.1,x.2)
  |none=>none
theorem pg:∀{s a r:Bs} {m:UInt8},fE s=some (a,m,r)->s=a++m::r/\Tc m=true/\a.all (fun c=> !Tc c)=true
 |[],_,_,_,h=>by simp[fE] at h
 |c::s,a,r,m,h=>by
  rw[fE] at h;split at h
  ·rename_i hc;cases h;exact⟨rfl,hc,rfl⟩
  ·rename_i hc;cases hs:fE s with
   |none=>rw[hs] at h;cases h
   |some x=>
    obtain⟨x1,x2,x3⟩:=x;rw[hs] at h;cases h;obtain⟨h1,h2,h3⟩:=pg hs;exact⟨by rw[h1];rfl,h2,by rw[List.all_cons,h3];simp[hc]⟩
def lZ (k:UInt8)(s:Bs):Bs:=if k=91 then(if s.drop (s.length-1)=[93] then s.take (s.length-1) else[]) else s
def pz:Nat->UInt8->Bs->List (UInt8×Bs)
 |0,_,_=>[]
 |f+1,k,s=>match fE s with
  |none=>[(k,lZ k s)]
  |some (a,m,r)=>(k,lZ k a)::pz f m r
def yQ (s:Bs):Bool:=s==[]||s==[42]
def NT (x:UInt8×Bs):Bool:=(x.1==0 && yQ x.2)||gG x.2
def yR:Nat->List (UInt8×Bs)->Bool
 |_,[]=>true
 |c,x::l=>decide ((if x.1=0 then c else c+1)<=8) && NT x && yR (if x.1=0 then c else c+1) l
def qp (s:Bs):List (UInt8×Bs):=pz (s.length+1) 0 s
def uh (s:Bs):Bool:=yR 0 (qp s) && s !=[]
def yS:Nat->List Bs->Bool
 |_,[]=>true
 |c,x::l=>decide (c+1<=5) && uh x && yS (c+1) l
def gU (s:Bs):List Bs:=nu (s.length+1) s
def pE (s:Bs):Bool:=yS 0 (gU s)
def JH (x:UInt8×Bs):Nat:=if x.1=35 then 100 else if x.1=46\/x.1=91 then 10 else if yQ x.2 then 0 else 1
def jU (l:List (UInt8×Bs)):Nat:=(l.map JH).sum
def wtM (s:Bs):Nat:=((gU s).map fun t=>jU (qp t)).sum
def kQ (l:List (Bs×Bs))(nm:Bs):Option Bs:=(l.find? fun a=>a.1==nm).map Prod.snd
def a8S (v nm:Bs):Bool:=Lib.containsS (Lib.splitB ⟨#[32]⟩ 0 (Lib.countB ⟨v.toArray⟩ ⟨#[32]⟩) ⟨v.toArray⟩) ⟨nm.toArray⟩
def yU (e:gH)(x:UInt8×Bs):Bool:=
 if x.1=35 then(kQ e.ats [105,100]).getD []==x.2
 else if x.1=46 then a8S ((kQ e.ats [99,108,97,115,115]).getD []) x.2
 else if x.1=91 then(kQ e.ats x.2).isSome
 else yQ x.2||e.name==x.2
def JI (M:Dm)(s:Bs)(n:Int):Bool:=match M n with
 |none=>false
 |some e=>e.name !=[] && (qp s).all (yU e)
def j6 (M:Dm):Nat->Int->List Int
 |0,_=>[]
 |f+1,n=>match M n with
  |none=>[]
  |some e=>if e.parent<0 then[] else e.parent::j6 M f e.parent
def Ej (M:Dm):Nat->Bs->Int->Bool
 |0,_,_=>false
 |f+1,s,n=>match qB s with
  |(a,k,b)=>JI M b n && (match k with
   | .no=>true
   | .right=>Ej M f a (match M n with|none=> -1|some e=>e.parent)
   | .below=>(j6 M 11 n).any (Ej M f a))
def a3J (M:Dm)(s:Bs)(n:Int):Bool:=Ej M (s.length+1) s n
def tQ (M:Dm)(n:Int):Int:=match M n with|none=> -1|some e=>e.parent
theorem mX:∀(f g:Nat) (s:Bs),s.length<f->s.length<g->nu f s=nu g s
 |0,_,_,h,_=>by omega
 |_,0,_,_,h=>by omega
 |f+1,g+1,s,hf,hg=>by
  obtain⟨a,k,b,hc⟩:∃a k b,qB s=(a,k,b):=⟨_,_,_,rfl⟩;rw[nu,nu,hc];cases k with
  |no=>rfl
  |right=>
   have hl:=nR hc (by simp);simp only;rw[mX f g a (by omega) (by omega)]
  |below=>
   have hl:=nR hc (by simp);simp only;rw[mX f g a (by omega) (by omega)]
theorem JJ {s a b:Bs}(h:qB s=(a,.no,b)):gU s=[b]:=by
 rw[gU,nu,h]
theorem Bn {s a b:Bs}{k:Lk}(h:qB s=(a,k,b))(hk:k≠.no):gU s=b::gU a:=by
 have hl:=nR h hk;rw[gU,nu,h];cases k with
 |no=>exact absurd rfl hk
 |right=>simp only;rw[gU,mX s.length (a.length+1) a hl (by omega)]
 |below=>simp only;rw[gU,mX s.length (a.length+1) a hl (by omega)]
theorem qV {s a r:Bs}{m:UInt8}(h:fE s=some (a,m,r)):r.length<s.length:=by
 have:=congrArg List.length (pg h).1;rw[List.length_append,List.length_cons] at this;omega
theorem yV:∀(f g:Nat) (k:UInt8) (s:Bs),s.length<f->s.length<g->pz f k s=pz g k s
 |0,_,_,_,h,_=>by omega
 |_,0,_,_,_,h=>by omega
 |f+1,g+1,k,s,hf,hg=>by
  rw[pz,pz];cases hs:fE s with
  |none=>rfl
  |some x=>
   obtain⟨a,m,r⟩:=x;have:=qV hs;simp only;rw[yV f g m r (by omega) (by omega)]
def pts (k:UInt8)(s:Bs):List (UInt8×Bs):=pz (s.length+1) k s
theorem Ww {k:UInt8}{s:Bs}(h:fE s=none):pts k s=[(k,lZ k s)]:=by
 rw[pts,pz,h]
theorem JK {k m:UInt8}{s a r:Bs}(h:fE s=some (a,m,r)):pts k s=(k,lZ k a)::pts m r:=by
 have:=qV h;rw[pts,pz,h];simp only;rw[pts,yV s.length (r.length+1) m r (by omega) (by omega)]
theorem JL (k:UInt8)(s:Bs):(lZ k s).length<=s.length:=by
 unfold lZ;split
 ·split
  ·rw[List.length_take];omega
  ·exact aP _
 ·exact Nat.le_refl _
theorem Fs {s a b:Bs}{k:Lk}(h:qB s=(a,k,b)):b.length<=s.length:=by
 unfold qB at h;cases hs:lastB s with
 |none=>rw[hs] at h;cases h;exact Nat.le_refl _
 |some x=>
  obtain⟨x1,x2⟩:=x;obtain⟨h1, -⟩:=jY hs;have h2:x2.length<=s.length:=by rw[h1,List.length_append,List.length_cons];omega
  rw[hs] at h;simp only at h;split at h<;>cases h<;>exact h2
theorem Td (a b:List (UInt8×Bs)):jU (a++b)=jU a+jU b:=by
 unfold jU;rw[List.map_append,List.sum_append]
structure Rl where
 wh:Bs
 nm:Bs
 vl:Bs
def wz:Bs:=[102,105,108,108]
def uj:Bs:=[115,104,111,119]
def yX:Bs:=[114,117,108,101]
def uV:Bs:=[108,101,118,101,108]
def firstM (s:Bs):Bs:=if s=wz then[110,111,110,101] else if s=uj then[121,101,115] else if s=yX then[119,105,110,100] else if s=uV then[48] else[]
def yY (s:Bs):Bool:=firstM s !=[]
def Fu (s:Bs):Bool:=s==wz||s==yX
def Te (x:Nat):Bool:= !((decide (97<=x) && decide (x<=122))||(decide (48<=x) && decide (x<=57))||x==45)
def xI (s:Bs):Bool:=s !=[] && decide (s.length<=12) && !decide (0<=Lib.idxFunc Te true ⟨s.toArray⟩)
def uk (l:Bs):Option Rl:=
 if(Lib.cut l [32,123,32]).2.2 && Lib.hasSuffix (Lib.cut l [32,123,32]).2.1 [32,125] && (Lib.cut (Lib.trimSuffix (Lib.cut l [32,123,32]).2.1 [32,125]) [58,32]).2.2 && yY (Lib.cut (Lib.trimSuffix (Lib.cut l [32,123,32]).2.1 [32,125]) [58,32]).1 && xI (Lib.cut (Lib.trimSuffix (Lib.cut l [32,123,32]).2.1 [32,125]) [58,32]).2.1 && pE (Lib.cut l [32,123,32]).1 then
  some ⟨(Lib.cut l [32,123,32]).1,(Lib.cut (Lib.trimSuffix (Lib.cut l [32,123,32]).2.1 [32,125]) [58,32]).1,(Lib.cut (Lib.trimSuffix (Lib.cut l [32,123,32]).2.1 [32,125]) [58,32]).2.1⟩
 else none
def Tf:Nat->List Rl->Bs->Except Nat (List Rl)
 |0,acc,_=>.ok acc
 |f+1,acc,s=>if s=[] then .ok acc else match uk (Lib.cut s [10]).1 with
  |none=>.error acc.length
  |some r=>if(Lib.cut s [10]).2.2 then Tf f (acc++[r]) (Lib.cut s [10]).2.1 else .error acc.length
def GQ (s:Bs):Except Nat (List Rl):=Tf (s.length+1) [] s
theorem a0J (s sep:Bs)(h:(Lib.cut s sep).2.2=true)(hs:sep≠[]):(Lib.cut s sep).2.1.length<s.length:=by
 unfold Lib.cut at h⊢;split
 ·next h0=>
  have h1:=Lib.index_room s sep h0;have h2:0<sep.length:=List.length_pos_iff.2 hs;simp only[List.length_drop];omega
 ·next h0=>rw[if_neg h0] at h;simp at h
theorem yZ (s sep:Bs):(Lib.cut s sep).1.length<=s.length:=by
 unfold Lib.cut;split
 ·simp only[List.length_take];omega
 ·exact Nat.le_refl _
theorem JM (s sep:Bs):(Lib.cut s sep).2.1.length<=s.length:=by
 unfold Lib.cut;split
 ·simp only[List.length_drop];omega
 ·simp
theorem Ti (s p:Bs):(Lib.trimSuffix s p).length<=s.length:=by
 unfold Lib.trimSuffix;split
 ·simp only[List.length_take];omega
 ·exact Nat.le_refl _
theorem a0K (f:Nat)(acc:List Rl):Tf f acc []=.ok acc:=by cases f<;>simp[Tf]
theorem a0L {f:Nat}{acc:List Rl}{s:Bs}(hs:s≠[])(hr:uk (Lib.cut s [10]).1=none):Tf (f+1) acc s=.error acc.length:=by
 rw[Tf,if_neg hs,hr]
theorem Wx {f:Nat}{acc:List Rl}{s:Bs}(hs:s≠[])(hr:(Lib.cut s [10]).2.2=false):Tf (f+1) acc s=.error acc.length:=by
 rw[Tf,if_neg hs];cases uk (Lib.cut s [10]).1 with
 |none=>rfl
 |some r=>simp[hr]
theorem Wy {f:Nat}{acc:List Rl}{s:Bs}{r:Rl}(hs:s≠[])(hr:uk (Lib.cut s [10]).1=some r)(he:(Lib.cut s [10]).2.2=true):Tf (f+1) acc s=Tf f (acc++[r]) (Lib.cut s [10]).2.1:=by
 rw[Tf,if_neg hs,hr];simp[he]
def NV (r:Rl):Prop:=pE r.wh=true/\yY r.nm=true/\xI r.vl=true/\r.wh.length<=1000000
def jL (p:Rl->Bool)(a:Bs×Bool×Nat)(r:Rl):Bs×Bool×Nat:=if decide (a.2.2<=wtM r.wh) && p r then(r.vl,true,wtM r.wh) else a
def E9 (p:Rl->Bool)(l:List Rl):Bs×Bool×Nat:=l.foldl (jL p) ([],false,0)
theorem Wz (p:Rl->Bool)(l:List Rl)(r:Rl):E9 p (l++[r])=jL p (E9 p l) r:=by
 unfold E9;rw[List.foldl_append];rfl
theorem Fv {p:Rl->Bool}{a:Bs×Bool×Nat}{r:Rl}(h:p r=false):jL p a r=a:=by unfold jL;rw[h];simp
theorem Bo {p:Rl->Bool}{a:Bs×Bool×Nat}{r:Rl}(h:¬a.2.2<=wtM r.wh):jL p a r=a:=by unfold jL;rw[decide_eq_false h];simp
theorem Bp {p:Rl->Bool}{a:Bs×Bool×Nat}{r:Rl}(h:a.2.2<=wtM r.wh)(hp:p r=true):jL p a r=(r.vl,true,wtM r.wh):=by unfold jL;rw[decide_eq_true h,hp];simp
def zQ (M:Dm)(n:Int)(nm:Bs):Option Bs:=match M n with|none=>none|some e=>kQ e.ats nm
def ny (M:Dm)(nm:Bs)(n:Int)(r:Rl):Bool:=r.nm==nm && a3J M r.wh n
def wB (M:Dm)(l:List Rl)(nm:Bs)(n:Int):Option Bs:=match zQ M n nm with
 |some v=>some v
 |none=>if(E9 (ny M nm n) l).2.1 then some (E9 (ny M nm n) l).1 else none
def JN (M:Dm)(l:List Rl)(nm:Bs):Nat->Int->Bs
 |0,_=>firstM nm
 |f+1,n=>if n<0 then firstM nm else match wB M l nm n with
  |some v=>v
  |none=>if Fu nm then JN M l nm f (tQ M n) else firstM nm
def ofM (M:Dm)(l:List Rl)(nm:Bs)(n:Int):Bs:=if(M n).isSome && yY nm then JN M l nm 12 n else[]
end
end Go.Proofs.YtecneflbncjhpaaGreatDoor

/- Parts of the proof. -/
import Derived.Test.YtjfiehbcamfdfaaGreatDoorQz3
import Derived.Lib.Split
import Derived.Lib.SlicesS
import Derived.Shelf.GgClosure.StringsIndexFunc
namespace Go.Proofs.YtjfiehbcamfdfaaGreatDoor
section
def lastB:Bs->Option (Bs×Bs)
  |[]=>none
  |c::s=>match lastB s with
    |some x=>some (c::x.1,x.2)
    |none=>if c=32 then some ([],s) else none
theorem jE:∀{s a b:Bs},lastB s=some (a,b)->s=a++32::b/\(32:UInt8) ∉ b
  |[],_,_,h=>by simp[lastB] at h
  |c::s,a,b,h=>by
    rw[lastB] at h;cases hs:lastB s with
    |some x=>
      obtain⟨x1,x2⟩:=x;rw[hs] at h;simp at h;obtain⟨rfl,rfl⟩:=h;obtain⟨h1,h2⟩:=jE hs;exact⟨by rw[h1];rfl,h2⟩
    |none=>
      rw[hs] at h;simp only at h;split at h
      · rename_i hc
        cases h;refine⟨by rw[hc];rfl,?_⟩;exact kT hs
      · cases h
where
  kT:∀{s:Bs},lastB s=none->(32:UInt8) ∉ s
  |[],_=>by simp
  |c::s,h=>by
    rw[lastB] at h;cases hs:lastB s with
    |some x=>rw[hs] at h;simp at h
    |none=>
      rw[hs] at h;simp only at h;split at h
      · cases h
      · rename_i hc
        intro hm;rcases List.mem_cons.1 hm with h1|h1
        · exact hc h1.symm
        · exact kT hs h1
theorem kT {s:Bs}(h:lastB s=none):(32:UInt8) ∉ s:=jE.kT h
def CZ (a:Bs):Option Bs:=if a.drop (a.length-2)=[32,62] then some (a.take (a.length-2)) else none
theorem QO {a x:Bs}(h:CZ a=some x):a=x++[32,62]:=by
  unfold CZ at h;split at h
  · rename_i hd
    cases h;have:=List.take_append_drop (a.length-2) a;rw[hd] at this;exact this.symm
  · cases h
inductive Lk where
  |no
  |right
  |below
def Lk.bs:Lk->Bs
  | .no=>[]
  | .right=>[32,62,32]
  | .below=>[32]
def oU (s:Bs):Bs×Lk×Bs:=match lastB s with
  |none=>([],.no,s)
  |some (a,b)=>match CZ a with
    |some x=>(x,.right,b)
    |none=>(a,.below,b)
theorem mV {s a b:Bs}{k:Lk}(h:oU s=(a,k,b))(hk:k≠.no):a.length<s.length:=by
  unfold oU at h;cases hs:lastB s with
  |none=>rw[hs] at h;cases h;exact absurd rfl hk
  |some x=>
    obtain⟨x1,x2⟩:=x;obtain⟨h1, -⟩:=jE hs;rw[hs] at h;simp only at h;cases hg:CZ x1 with
    |none=>
      rw[hg] at h;cases h;rw[h1,List.length_append,List.length_cons];omega
    |some y=>
      rw[hg] at h;cases h;have h2:=congrArg List.length (QO hg);rw[h1,List.length_append,List.length_cons];rw[List.length_append] at h2;omega
def lZ:Nat->Bs->List Bs
  |0,_=>[]
  |f+1,s=>match oU s with
    |(_,.no,b)=>[b]
    |(a,_,b)=>b::lZ f a
def QS (c:UInt8):Bool:=c==35||c==46||c==91
def eD:Bs->Option (Bs×UInt8×Bs)
  |[]=>none
  |c::s=>if QS c then some ([],c,s) else match eD s with
    |some x=>some (c::x.1,x.2)
    |none=>none
theorem nK:∀{s a r:Bs} {m:UInt8},eD s=some (a,m,r)->s=a++m::r/\QS m=true/\a.all (fun c=> !QS c)=true
  |[],_,_,_,h=>by simp[eD] at h
  |c::s,a,r,m,h=>by
    rw[eD] at h;split at h
    · rename_i hc
      cases h;exact⟨rfl,hc,rfl⟩
    · rename_i hc
      cases hs:eD s with
      |none=>rw[hs] at h;cases h
      |some x=>
        obtain⟨x1,x2,x3⟩:=x;rw[hs] at h;cases h;obtain⟨h1,h2,h3⟩:=nK hs;exact⟨by rw[h1];rfl,h2,by rw[List.all_cons,h3];simp[hc]⟩
def kU (k:UInt8)(s:Bs):Bs:=if k=91 then(if s.drop (s.length-1)=[93] then s.take (s.length-1) else[]) else s
def nL:Nat->UInt8->Bs->List (UInt8×Bs)
  |0,_,_=>[]
  |f+1,k,s=>match eD s with
    |none=>[(k,kU k s)]
    |some (a,m,r)=>(k,kU k a)::nL f m r
def xV (s:Bs):Bool:=s==[]||s==[42]
def M9 (x:UInt8×Bs):Bool:=(x.1==0 && xV x.2)||fP x.2
def xW:Nat->List (UInt8×Bs)->Bool
  |_,[]=>true
  |c,x::l=>decide ((if x.1=0 then c else c+1)<=8) && M9 x && xW (if x.1=0 then c else c+1) l
def oM (s:Bs):List (UInt8×Bs):=nL (s.length+1) 0 s
def rX (s:Bs):Bool:=xW 0 (oM s) && s !=[]
def xX:Nat->List Bs->Bool
  |_,[]=>true
  |c,x::l=>decide (c+1<=5) && rX x && xX (c+1) l
def fV (s:Bs):List Bs:=lZ (s.length+1) s
def nM (s:Bs):Bool:=xX 0 (fV s)
def Ih (x:UInt8×Bs):Nat:=if x.1=35 then 100 else if x.1=46\/x.1=91 then 10 else if xV x.2 then 0 else 1
def jA (l:List (UInt8×Bs)):Nat:=(l.map Ih).sum
def Yz (s:Bs):Nat:=((fV s).map fun t=>jA (oM t)).sum
def jk (l:List (Bs×Bs))(nm:Bs):Option Bs:=(l.find? fun a=>a.1==nm).map Prod.snd
def a6A (v nm:Bs):Bool:=Lib.containsS (Lib.splitB ⟨#[32]⟩ 0 (Lib.countB ⟨v.toArray⟩ ⟨#[32]⟩) ⟨v.toArray⟩) ⟨nm.toArray⟩
def xY (e:dO)(x:UInt8×Bs):Bool:=
  if x.1=35 then(jk e.ats [105,100]).getD []==x.2
  else if x.1=46 then a6A ((jk e.ats [99,108,97,115,115]).getD []) x.2
  else if x.1=91 then(jk e.ats x.2).isSome
  else xV x.2||e.name==x.2
def Ii (M:Dm)(s:Bs)(n:Int):Bool:=match M n with
  |none=>false
  |some e=>e.name !=[] && (oM s).all (xY e)
def iG (M:Dm):Nat->Int->List Int
  |0,_=>[]
  |f+1,n=>match M n with
    |none=>[]
    |some e=>if e.parent<0 then[] else e.parent::iG M f e.parent
def D9 (M:Dm):Nat->Bs->Int->Bool
  |0,_,_=>false
  |f+1,s,n=>match oU s with
    |(a,k,b)=>Ii M b n && (match k with
      | .no=>true
      | .right=>D9 M f a (match M n with|none=> -1|some e=>e.parent)
      | .below=>(iG M 11 n).any (D9 M f a))
def a1E (M:Dm)(s:Bs)(n:Int):Bool:=D9 M (s.length+1) s n
def rQ (M:Dm)(n:Int):Int:=match M n with|none=> -1|some e=>e.parent
theorem lS:∀(f g:Nat) (s:Bs),s.length<f->s.length<g->lZ f s=lZ g s
 |0,_,_,h,_=>by omega
 |_,0,_,_,h=>by omega
 |f+1,g+1,s,hf,hg=>by
  obtain⟨a,k,b,hc⟩:∃a k b,oU s=(a,k,b):=⟨_,_,_,rfl⟩;rw[lZ,lZ,hc];cases k with
  |no=>rfl
  |right=>
   have hl:=mV hc (by simp);simp only;rw[lS f g a (by omega) (by omega)]
  |below=>
   have hl:=mV hc (by simp);simp only;rw[lS f g a (by omega) (by omega)]
theorem Ij {s a b:Bs}(h:oU s=(a,.no,b)):fV s=[b]:=by
 rw[fV,lZ,h]
theorem Ad {s a b:Bs}{k:Lk}(h:oU s=(a,k,b))(hk:k≠.no):fV s=b::fV a:=by
 have hl:=mV h hk;rw[fV,lZ,h];cases k with
 |no=>exact absurd rfl hk
 |right=>simp only;rw[fV,lS s.length (a.length+1) a hl (by omega)]
 |below=>simp only;rw[fV,lS s.length (a.length+1) a hl (by omega)]
theorem qd {s a r:Bs}{m:UInt8}(h:eD s=some (a,m,r)):r.length<s.length:=by
 have:=congrArg List.length (nK h).1;rw[List.length_append,List.length_cons] at this;omega
theorem xZ:∀(f g:Nat) (k:UInt8) (s:Bs),s.length<f->s.length<g->nL f k s=nL g k s
 |0,_,_,_,h,_=>by omega
 |_,0,_,_,_,h=>by omega
 |f+1,g+1,k,s,hf,hg=>by
  rw[nL,nL];cases hs:eD s with
  |none=>rfl
  |some x=>
   obtain⟨a,m,r⟩:=x;have:=qd hs;simp only;rw[xZ f g m r (by omega) (by omega)]
def pts (k:UInt8)(s:Bs):List (UInt8×Bs):=nL (s.length+1) k s
theorem UX {k:UInt8}{s:Bs}(h:eD s=none):pts k s=[(k,kU k s)]:=by
 rw[pts,nL,h]
theorem Ik {k m:UInt8}{s a r:Bs}(h:eD s=some (a,m,r)):pts k s=(k,kU k a)::pts m r:=by
 have:=qd h;rw[pts,nL,h];simp only;rw[pts,xZ s.length (r.length+1) m r (by omega) (by omega)]
theorem Il (k:UInt8)(s:Bs):(kU k s).length<=s.length:=by
 unfold kU;split
 ·split
  ·rw[List.length_take];omega
  ·exact Nat.zero_le _
 ·exact Nat.le_refl _
theorem Ee {s a b:Bs}{k:Lk}(h:oU s=(a,k,b)):b.length<=s.length:=by
 unfold oU at h;cases hs:lastB s with
 |none=>rw[hs] at h;cases h;exact Nat.le_refl _
 |some x=>
  obtain⟨x1,x2⟩:=x;obtain⟨h1, -⟩:=jE hs;have h2:x2.length<=s.length:=by rw[h1,List.length_append,List.length_cons];omega
  rw[hs] at h;simp only at h;split at h<;>cases h<;>exact h2
theorem QT (a b:List (UInt8×Bs)):jA (a++b)=jA a+jA b:=by
 unfold jA;rw[List.map_append,List.sum_append]
structure Rl where
  wh:Bs
  nm:Bs
  vl:Bs
def uS:Bs:=[102,105,108,108]
def rY:Bs:=[115,104,111,119]
def yc:Bs:=[114,117,108,101]
def tL:Bs:=[108,101,118,101,108]
def firstM (s:Bs):Bs:=if s=uS then[110,111,110,101] else if s=rY then[121,101,115] else if s=yc then[119,105,110,100] else if s=tL then[48] else[]
def yf (s:Bs):Bool:=firstM s !=[]
def Ef (s:Bs):Bool:=s==uS||s==yc
def QU (x:Nat):Bool:= !((decide (97<=x) && decide (x<=122))||(decide (48<=x) && decide (x<=57))||x==45)
def wM (s:Bs):Bool:=s !=[] && decide (s.length<=12) && !decide (0<=Lib.idxFunc QU true ⟨s.toArray⟩)
def mW (l:Bs):Option Rl:=
  if(Lib.cut l [32,123,32]).2.2 && Lib.hasSuffix (Lib.cut l [32,123,32]).2.1 [32,125] && (Lib.cut (Lib.trimSuffix (Lib.cut l [32,123,32]).2.1 [32,125]) [58,32]).2.2 && yf (Lib.cut (Lib.trimSuffix (Lib.cut l [32,123,32]).2.1 [32,125]) [58,32]).1 && wM (Lib.cut (Lib.trimSuffix (Lib.cut l [32,123,32]).2.1 [32,125]) [58,32]).2.1 && nM (Lib.cut l [32,123,32]).1 then
    some ⟨(Lib.cut l [32,123,32]).1,(Lib.cut (Lib.trimSuffix (Lib.cut l [32,123,32]).2.1 [32,125]) [58,32]).1,(Lib.cut (Lib.trimSuffix (Lib.cut l [32,123,32]).2.1 [32,125]) [58,32]).2.1⟩
  else none
def Ma:Nat->List Rl->Bs->Except Nat (List Rl)
  |0,acc,_=>.ok acc
  |f+1,acc,s=>if s=[] then .ok acc else match mW (Lib.cut s [10]).1 with
    |none=>.error acc.length
    |some r=>if(Lib.cut s [10]).2.2 then Ma f (acc++[r]) (Lib.cut s [10]).2.1 else .error acc.length
def wN (s:Bs):Except Nat (List Rl):=Ma (s.length+1) [] s
theorem Zd (s sep:Bs)(h:(Lib.cut s sep).2.2=true)(hs:sep≠[]):(Lib.cut s sep).2.1.length<s.length:=by
  unfold Lib.cut at h⊢;split
  · next h0=>
    have h1:=Lib.index_room s sep h0;have h2:0<sep.length:=List.length_pos_iff.2 hs;simp only[List.length_drop];omega
  · next h0=>rw[if_neg h0] at h;simp at h
theorem lU (s sep:Bs):(Lib.cut s sep).1.length<=s.length:=by
  unfold Lib.cut;split
  · simp only[List.length_take];omega
  · exact Nat.le_refl _
theorem yg (s sep:Bs):(Lib.cut s sep).2.1.length<=s.length:=by
  unfold Lib.cut;split
  · simp only[List.length_drop];omega
  · simp
theorem QV (s p:Bs):(Lib.trimSuffix s p).length<=s.length:=by
  unfold Lib.trimSuffix;split
  · simp only[List.length_take];omega
  · exact Nat.le_refl _
theorem OE (f:Nat)(acc:List Rl):Ma f acc []=.ok acc:=by cases f<;>simp[Ma]
theorem OG {f:Nat}{acc:List Rl}{s:Bs}(hs:s≠[])(hr:mW (Lib.cut s [10]).1=none):Ma (f+1) acc s=.error acc.length:=by
  rw[Ma,if_neg hs,hr]
theorem Im {f:Nat}{acc:List Rl}{s:Bs}(hs:s≠[])(hr:(Lib.cut s [10]).2.2=false):Ma (f+1) acc s=.error acc.length:=by
  rw[Ma,if_neg hs];cases mW (Lib.cut s [10]).1 with
  |none=>rfl
  |some r=>simp[hr]
theorem Io {f:Nat}{acc:List Rl}{s:Bs}{r:Rl}(hs:s≠[])(hr:mW (Lib.cut s [10]).1=some r)(he:(Lib.cut s [10]).2.2=true):Ma (f+1) acc s=Ma f (acc++[r]) (Lib.cut s [10]).2.1:=by
  rw[Ma,if_neg hs,hr];simp[he]
def Da (r:Rl):Prop:=nM r.wh=true/\yf r.nm=true/\wM r.vl=true/\r.wh.length<=1000000
theorem UY {l:Bs}{r:Rl}(hl:l.length<=1000000)(h:mW l=some r):Da r:=by
  unfold mW at h;split at h
  · next hc=>
    simp only[Bool.and_eq_true] at hc;cases h;exact⟨hc.2,hc.1.1.2,hc.1.2,Nat.le_trans (lU _ _) hl⟩
  · cases h
theorem UZ:∀(f:Nat) (acc:List Rl) (s:Bs) (l:List Rl),s.length<=1000000->(∀r∈acc,Da r)->Ma f acc s=.ok l->∀r∈l,Da r
  |0,acc,s,l,_,ha,h=>by rw[Ma] at h;cases h;exact ha
  |f+1,acc,s,l,hs,ha,h=>by
    by_cases h0:s=[]
    · subst h0;rw[OE] at h;cases h;exact ha
    · cases hr:mW (Lib.cut s [10]).1 with
      |none=>rw[OG h0 hr] at h;cases h
      |some r=>
        cases he:(Lib.cut s [10]).2.2 with
        |false=>rw[Im h0 he] at h;cases h
        |true=>
          rw[Io h0 hr he] at h;refine UZ f _ _ l (Nat.le_trans (yg _ _) hs) (fun x hx=>?_) h;rcases List.mem_append.1 hx with hx|hx
          · exact ha x hx
          · rw[List.mem_singleton.1 hx]
            exact UY (Nat.le_trans (lU _ _) hs) hr
def jl (p:Rl->Bool)(a:Bs×Bool×Nat)(r:Rl):Bs×Bool×Nat:=if decide (a.2.2<=Yz r.wh) && p r then(r.vl,true,Yz r.wh) else a
def Cy (p:Rl->Bool)(l:List Rl):Bs×Bool×Nat:=l.foldl (jl p) ([],false,0)
theorem V5 (p:Rl->Bool)(l:List Rl)(r:Rl):Cy p (l++[r])=jl p (Cy p l) r:=by
  unfold Cy;rw[List.foldl_append];rfl
theorem Eh {p:Rl->Bool}{a:Bs×Bool×Nat}{r:Rl}(h:p r=false):jl p a r=a:=by unfold jl;rw[h];simp
theorem Ae {p:Rl->Bool}{a:Bs×Bool×Nat}{r:Rl}(h:¬a.2.2<=Yz r.wh):jl p a r=a:=by unfold jl;rw[decide_eq_false h];simp
theorem Af {p:Rl->Bool}{a:Bs×Bool×Nat}{r:Rl}(h:a.2.2<=Yz r.wh)(hp:p r=true):jl p a r=(r.vl,true,Yz r.wh):=by unfold jl;rw[decide_eq_true h,hp];simp
def yP (M:Dm)(n:Int)(nm:Bs):Option Bs:=match M n with|none=>none|some e=>jk e.ats nm
def mg (M:Dm)(nm:Bs)(n:Int)(r:Rl):Bool:=r.nm==nm && a1E M r.wh n
def uT (M:Dm)(l:List Rl)(nm:Bs)(n:Int):Option Bs:=match yP M n nm with
  |some v=>some v
  |none=>if(Cy (mg M nm n) l).2.1 then some (Cy (mg M nm n) l).1 else none
def Ip (M:Dm)(l:List Rl)(nm:Bs):Nat->Int->Bs
  |0,_=>firstM nm
  |f+1,n=>if n<0 then firstM nm else match uT M l nm n with
    |some v=>v
    |none=>if Ef nm then Ip M l nm f (rQ M n) else firstM nm
def ofM (M:Dm)(l:List Rl)(nm:Bs)(n:Int):Bs:=if(M n).isSome && yf nm then Ip M l nm 12 n else[]
def nums (k n:Nat):List Int:=(List.range' k n).map (fun(j:Nat)=>(j:Int))
theorem V6 {k n:Nat}{i:Int}:i∈nums k n↔(k:Int)<=i/\i<k+n:=by
 unfold nums;simp only[List.mem_map,List.mem_range'_1];constructor
 ·rintro⟨j,hj,rfl⟩;omega
 ·intro h;exact⟨i.toNat,by omega,by omega⟩
mutual
theorem OH:∀(n:Nd) (k:Nat) (p:Int) (j:Nat) (e:dO),(oK k p n)[j]? =some e->(j=0/\e.parent=p)\/(0<j/\(k:Int)<=e.parent/\e.parent<k+gu n)
 | .mk nm as1 ks,k,p,0,e,h=>by
  rw[oK] at h;simp at h;subst h;exact .inl ⟨rfl,rfl⟩
 | .mk nm as1 ks,k,p,j+1,e,h=>by
  rw[oK] at h;rw[gu];rcases OI ks (k+1) k j e (by simpa using h) with h1|h1
  ·exact .inr (by omega)
  ·exact .inr (by omega)
theorem OI:∀(l:List Nd) (k:Nat) (p:Int) (j:Nat) (e:dO),(qb k p l)[j]? =some e->e.parent=p\/((k:Int)<=e.parent/\e.parent<k+jd l)
 |[],_,_,_,_,h=>by simp[qb] at h
 |n::l,k,p,j,e,h=>by
  rw[qb] at h;rw[jd];by_cases hj:j<gu n
  ·rw[List.getElem?_append_left (by rw[fq];exact hj)] at h;rcases OH n k p j e h with h1|h1
   ·exact .inl h1.2
   ·exact .inr (by omega)
  ·rw[List.getElem?_append_right (by rw[fq];omega)] at h;rcases OI l _ p _ e h with h1|h1
   ·exact .inl h1
   ·exact .inr (by omega)
end
def Own (L:List dO)(k i s:Nat):Prop:=∀(j:Nat) (e:dO),L[j]? =some e->((i<k+j/\k+j<i+s)->(i:Int)<=e.parent/\e.parent<i+s)/\(¬(i<=k+j/\k+j<i+s)->¬((i:Int)<=e.parent/\e.parent<i+s))
end
end Go.Proofs.YtjfiehbcamfdfaaGreatDoor

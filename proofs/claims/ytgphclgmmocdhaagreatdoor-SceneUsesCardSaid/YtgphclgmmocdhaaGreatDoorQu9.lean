/-
  Parts of the proof.
-/
import Derived.Lib.Split
import Derived.Lib.SlicesS
import Derived.Shelf.GgClosure.StringsIndexFunc
namespace Go.Proofs.YtgphclgmmocdhaaGreatDoor
section
abbrev Bs:=List UInt8
inductive Nd where
  | mk (name:Bs) (attrs:List (Bs × Bs)) (kids:List Nd)
def escB (c:UInt8):Bs:=if c=60 then [38,108,116,59] else if c=62 then [38,103,116,59] else if c=38 then [38,97,109,112,59] else if c=34 then [38,113,117,111,116,59] else [c]
def escV:Bs->Bs
  | []=>[]
  | c :: v=>escB c++escV v
def atT (a:Bs × Bs):Bs:=32 :: (a.1++61 :: 34 :: (escV a.2++[34]))
def atsT:List (Bs × Bs)->Bs
  | []=>[]
  | a :: l=>atT a++atsT l
mutual
def txt:Nd->Bs
  | .mk nm as1 ks=>60 :: (nm++(atsT as1++(match ks with
    | []=>[47,62]
    | k :: l=>62 :: (txt k++(txtL l++60 :: 47 :: (nm++[62]))))))
def txtL:List Nd->Bs
  | []=>[]
  | k :: l=>txt k++txtL l
end
def letB (c:UInt8):Bool:=decide (97<=c) && decide (c<=122)
def digB (c:UInt8):Bool:=decide (48<=c) && decide (c<=57)
def nmB (c:UInt8):Bool:=letB c || digB c || c==45
def isNm (s:Bs):Bool:=match s with
  | []=>false
  | c :: r=>decide ((c :: r).length<=12) && letB c && r.all nmB
def isVal (s:Bs):Bool:=decide (s.length<=200) && s.all (fun c => !(decide (c<32)) && !(decide (126<c)))
theorem isNm_all {s:Bs} (h:isNm s=true):∀ c ∈ s,nmB c=true:=by
  cases s with
  | nil=>simp
  | cons c r=>
    simp only [isNm,Bool.and_eq_true,List.all_eq_true] at h
    intro d hd
    rcases List.mem_cons.1 hd with rfl | hd
    · simp [nmB,h.1.2]
    · exact h.2 d hd
theorem isNm_head {s:Bs} (h:isNm s=true):∃ c r,s=c :: r/\nmB c=true:=by
  cases s with
  | nil=>simp [isNm] at h
  | cons c r=>exact ⟨c,r,rfl,isNm_all h c (by simp)⟩
structure Fl where
  name:Bs
  attrs:List (Bs × Bs)
  parent:Int
  deep:Nat
mutual
def flN (k:Nat) (p:Int) (d:Nat):Nd->List Fl
  | .mk nm as1 ks=>⟨nm,as1,p,d⟩ :: flL (k+1) k (d+1) ks
def flL (k:Nat) (p:Int) (d:Nat):List Nd->List Fl
  | []=>[]
  | n :: l=>flN k p d n++flL (k+(flN k p d n).length) p d l
end
theorem flN_head (k:Nat) (p:Int) (d:Nat) (n:Nd):∃ f r,flN k p d n=f :: r/\f.parent=p:=by
  cases n with
  | mk nm as1 ks=>exact ⟨_,_,by rw [flN],rfl⟩
end
section
structure Elm where
  name:Bs
  ats:List (Bs × Bs)
  parent:Int
  kids:List Int
abbrev Dm:=Int->Option Elm
def putE (M:Dm) (k:Int) (e:Elm):Dm:=fun i=>if i=k then some e else M i
def extE (M:Dm) (nx:Nat) (L:List Elm):Dm:=fun i=>if (nx:Int)<=i/\i<nx+L.length then L[(i - nx).toNat]? else M i
theorem extE_app (M:Dm) (nx:Nat) (a b:List Elm):extE (extE M nx a) (nx+a.length) b=extE M nx (a++b):=by
  funext i
  unfold extE
  simp only [List.length_append]
  by_cases h1:((nx+a.length:Nat):Int)<=i/\i<((nx+a.length:Nat):Int)+b.length
  · rw [if_pos h1,if_pos (by omega),List.getElem?_append_right (by omega)]
    congr 1
    omega
  · rw [if_neg h1]
    by_cases h2:(nx:Int)<=i/\i<nx+a.length
    · rw [if_pos h2,if_pos (by omega),List.getElem?_append_left (by omega)]
    · rw [if_neg h2,if_neg (by omega)]
theorem extE_one (M:Dm) (nx:Nat) (e:Elm):extE M nx [e]=putE M nx e:=by
  funext i
  unfold extE putE
  by_cases h:i=nx
  · subst h
    rw [if_pos (by simp only [List.length_cons,List.length_nil];omega),if_pos rfl]
    simp
  · rw [if_neg (by simp only [List.length_cons,List.length_nil];omega),if_neg h]
theorem extE_head (M:Dm) (nx:Nat) (e e':Elm) (L:List Elm):putE (extE M nx (e :: L)) nx e'=extE M nx (e' :: L):=by
  funext i
  unfold extE putE
  by_cases h:i=nx
  · subst h
    rw [if_pos rfl,if_pos (by simp only [List.length_cons];omega)]
    simp
  · rw [if_neg h]
    show (if (nx:Int)<=i/\i<nx+(e :: L).length then (e :: L)[(i - nx).toNat]? else M i)=_
    by_cases h2:(nx:Int)<=i/\i<nx+(e :: L).length
    · rw [if_pos h2,if_pos (by simpa using h2)]
      obtain ⟨j,hj⟩:∃ j:Nat,(i - nx).toNat=j+1:=⟨(i - nx).toNat - 1,by omega⟩
      rw [hj]
      simp
    · rw [if_neg h2,if_neg (by simpa using h2)]
theorem extE_at (M:Dm) (nx:Nat) (e:Elm) (L:List Elm):extE M nx (e :: L) nx=some e:=by
  unfold extE
  rw [if_pos (by simp only [List.length_cons];omega)]
  simp
theorem extE_old {M:Dm} {nx:Nat} {L:List Elm} {i:Int} (h:i<nx):extE M nx L i=M i:=by
  unfold extE
  rw [if_neg (by omega)]
theorem extE_new {M:Dm} {nx j:Nat} {L:List Elm} (h:j<L.length):extE M nx L ((nx:Int)+j)=L[j]? := by
  unfold extE
  rw [if_pos (by omega)]
  congr 1
  omega
mutual
def szN:Nd->Nat
  | .mk _ _ ks=>szL ks+1
def szL:List Nd->Nat
  | []=>0
  | n :: l=>szN n+szL l
end
theorem szN_pos (n:Nd):0<szN n:=by cases n;simp [szN]
theorem szL_app:∀ a b:List Nd,szL (a++b)=szL a+szL b
  | [],b=>by simp [szL]
  | n :: a,b=>by simp [szL,szL_app a b];omega
def kdN (k:Nat):List Nd->List Int
  | []=>[]
  | n :: l=>(k:Int) :: kdN (k+szN n) l
theorem kdN_snoc:∀ (a:List Nd) (k:Nat) (n:Nd),kdN k (a++[n])=kdN k a++[((k+szL a:Nat):Int)]
  | [],k,n=>by simp [kdN,szL]
  | m :: a,k,n=>by
    rw [List.cons_append,kdN,kdN_snoc a,kdN,szL]
    simp [Nat.add_assoc]
mutual
def elN (k:Nat) (p:Int):Nd->List Elm
  | .mk nm as1 ks=>⟨nm,as1,p,kdN (k+1) ks⟩ :: elL (k+1) k ks
def elL (k:Nat) (p:Int):List Nd->List Elm
  | []=>[]
  | n :: l=>elN k p n++elL (k+szN n) p l
end
mutual
theorem elN_len:∀ (n:Nd) (k:Nat) (p:Int),(elN k p n).length=szN n
  | .mk nm as1 ks,k,p=>by rw [elN,szN,List.length_cons,elL_len ks]
theorem elL_len:∀ (l:List Nd) (k:Nat) (p:Int),(elL k p l).length=szL l
  | [],_,_=>rfl
  | n :: l,k,p=>by rw [elL,szL,List.length_append,elN_len n,elL_len l]
end
mutual
theorem flN_len:∀ (n:Nd) (k:Nat) (p:Int) (d:Nat),(flN k p d n).length=szN n
  | .mk nm as1 ks,k,p,d=>by rw [flN,szN,List.length_cons,flL_len ks]
theorem flL_len:∀ (l:List Nd) (k:Nat) (p:Int) (d:Nat),(flL k p d l).length=szL l
  | [],_,_,_=>rfl
  | n :: l,k,p,d=>by rw [flL,szL,List.length_append,flN_len n,flL_len l]
end
theorem elL_snoc:∀ (a:List Nd) (k:Nat) (p:Int) (n:Nd),elL k p (a++[n])=elL k p a++elN (k+szL a) p n
  | [],k,p,n=>by simp [elL,szL]
  | m :: a,k,p,n=>by
    rw [List.cons_append,elL,elL_snoc a,elL,szL]
    simp [Nat.add_assoc]
mutual
theorem elN_fl:∀ (n:Nd) (k:Nat) (p:Int) (d:Nat),(elN k p n).map (fun e=>(e.name,e.ats,e.parent))=(flN k p d n).map (fun f=>(f.name,f.attrs,f.parent))
  | .mk nm as1 ks,k,p,d=>by
    rw [elN,flN,List.map_cons,List.map_cons,elL_fl ks (k+1) k (d+1)]
theorem elL_fl:∀ (l:List Nd) (k:Nat) (p:Int) (d:Nat),(elL k p l).map (fun e=>(e.name,e.ats,e.parent))=(flL k p d l).map (fun f=>(f.name,f.attrs,f.parent))
  | [],_,_,_=>rfl
  | n :: l,k,p,d=>by
    rw [elL,flL,List.map_append,List.map_append,elN_fl n k p d,flN_len,elL_fl l]
end
def Dp (M:Dm):Nat->Int->Prop
  | 0,_=>False
  | f+1,i=>∀ e,M i=some e->∀ k ∈ e.kids,Dp M f k
def pre (M:Dm):Nat->Int->Int->List (Int × Int)
  | 0,_,_=>[]
  | f+1,i,d=>match M i with
    | none=>[]
    | some e=>(i,d) :: e.kids.flatMap (fun k=>pre M f k (d+1))
end
section
def lastB:Bs->Option (Bs × Bs)
  | []=>none
  | c :: s=>match lastB s with
    | some x=>some (c :: x.1,x.2)
    | none=>if c=32 then some ([],s) else none
theorem lastB_some:∀ {s a b:Bs},lastB s=some (a,b)->s=a++32 :: b/\(32:UInt8) ∉ b
  | [],_,_,h=>by simp [lastB] at h
  | c :: s,a,b,h=>by
    rw [lastB] at h
    cases hs:lastB s with
    | some x=>
      obtain ⟨x1,x2⟩:=x
      rw [hs] at h
      simp at h
      obtain ⟨rfl,rfl⟩:=h
      obtain ⟨h1,h2⟩:=lastB_some hs
      exact ⟨by rw [h1];rfl,h2⟩
    | none=>
      rw [hs] at h
      simp only at h
      split at h
      · rename_i hc
        cases h
        refine ⟨by rw [hc];rfl,?_⟩
        exact lastB_none hs
      · cases h
where
  lastB_none:∀ {s:Bs},lastB s=none->(32:UInt8) ∉ s
  | [],_=>by simp
  | c :: s,h=>by
    rw [lastB] at h
    cases hs:lastB s with
    | some x=>rw [hs] at h;simp at h
    | none=>
      rw [hs] at h
      simp only at h
      split at h
      · cases h
      · rename_i hc
        intro hm
        rcases List.mem_cons.1 hm with h1 | h1
        · exact hc h1.symm
        · exact lastB_none hs h1
theorem lastB_none {s:Bs} (h:lastB s=none):(32:UInt8) ∉ s:=lastB_some.lastB_none h
def offG (a:Bs):Option Bs:=if a.drop (a.length - 2)=[32,62] then some (a.take (a.length - 2)) else none
theorem offG_some {a x:Bs} (h:offG a=some x):a=x++[32,62]:=by
  unfold offG at h
  split at h
  · rename_i hd
    cases h
    have:=List.take_append_drop (a.length - 2) a
    rw [hd] at this
    exact this.symm
  · cases h
inductive Lk where
  | no
  | right
  | below
def Lk.bs:Lk->Bs
  | .no=>[]
  | .right=>[32,62,32]
  | .below=>[32]
def cutM (s:Bs):Bs × Lk × Bs:=match lastB s with
  | none=>([],.no,s)
  | some (a,b)=>match offG a with
    | some x=>(x,.right,b)
    | none=>(a,.below,b)
theorem cutM_len {s a b:Bs} {k:Lk} (h:cutM s=(a,k,b)) (hk:k≠.no):a.length<s.length:=by
  unfold cutM at h
  cases hs:lastB s with
  | none=>rw [hs] at h;cases h;exact absurd rfl hk
  | some x=>
    obtain ⟨x1,x2⟩:=x
    obtain ⟨h1, -⟩:=lastB_some hs
    rw [hs] at h
    simp only at h
    cases hg:offG x1 with
    | none=>
      rw [hg] at h
      cases h
      rw [h1,List.length_append,List.length_cons]
      omega
    | some y=>
      rw [hg] at h
      cases h
      have h2:=congrArg List.length (offG_some hg)
      rw [h1,List.length_append,List.length_cons]
      rw [List.length_append] at h2
      omega
def stepsM:Nat->Bs->List Bs
  | 0,_=>[]
  | f+1,s=>match cutM s with
    | (_,.no,b)=>[b]
    | (a,_,b)=>b :: stepsM f a
def isMk (c:UInt8):Bool:=c==35 || c==46 || c==91
def firstMk:Bs->Option (Bs × UInt8 × Bs)
  | []=>none
  | c :: s=>if isMk c then some ([],c,s) else match firstMk s with
    | some x=>some (c :: x.1,x.2)
    | none=>none
theorem firstMk_some:∀ {s a r:Bs} {m:UInt8},firstMk s=some (a,m,r)->s=a++m :: r/\isMk m=true/\a.all (fun c => !isMk c)=true
  | [],_,_,_,h=>by simp [firstMk] at h
  | c :: s,a,r,m,h=>by
    rw [firstMk] at h
    split at h
    · rename_i hc
      cases h
      exact ⟨rfl,hc,rfl⟩
    · rename_i hc
      cases hs:firstMk s with
      | none=>rw [hs] at h;cases h
      | some x=>
        obtain ⟨x1,x2,x3⟩:=x
        rw [hs] at h
        cases h
        obtain ⟨h1,h2,h3⟩:=firstMk_some hs
        exact ⟨by rw [h1];rfl,h2,by rw [List.all_cons,h3];simp [hc]⟩
def nmIn (k:UInt8) (s:Bs):Bs:=if k=91 then (if s.drop (s.length - 1)=[93] then s.take (s.length - 1) else []) else s
def partsM:Nat->UInt8->Bs->List (UInt8 × Bs)
  | 0,_,_=>[]
  | f+1,k,s=>match firstMk s with
    | none=>[(k,nmIn k s)]
    | some (a,m,r)=>(k,nmIn k a) :: partsM f m r
def anyNm (s:Bs):Bool:=s==[] || s==[42]
def isPt (x:UInt8 × Bs):Bool:=(x.1==0 && anyNm x.2) || isNm x.2
def okPts:Nat->List (UInt8 × Bs)->Bool
  | _,[]=>true
  | c,x :: l=>decide ((if x.1=0 then c else c+1)<=8) && isPt x && okPts (if x.1=0 then c else c+1) l
def ptsOf (s:Bs):List (UInt8 × Bs):=partsM (s.length+1) 0 s
def isStM (s:Bs):Bool:=okPts 0 (ptsOf s) && s != []
def okSts:Nat->List Bs->Bool
  | _,[]=>true
  | c,x :: l=>decide (c+1<=5) && isStM x && okSts (c+1) l
def stsOf (s:Bs):List Bs:=stepsM (s.length+1) s
def isSelM (s:Bs):Bool:=okSts 0 (stsOf s)
def wtPt (x:UInt8 × Bs):Nat:=if x.1=35 then 100 else if x.1=46\/x.1=91 then 10 else if anyNm x.2 then 0 else 1
def wtPts (l:List (UInt8 × Bs)):Nat:=(l.map wtPt).sum
def wtM (s:Bs):Nat:=((stsOf s).map fun t=>wtPts (ptsOf t)).sum
def atOf (l:List (Bs × Bs)) (nm:Bs):Option Bs:=(l.find? fun a=>a.1==nm).map Prod.snd
def clsM (v nm:Bs):Bool:=Lib.containsS (Lib.splitB ⟨#[32]⟩ 0 (Lib.countB ⟨v.toArray⟩ ⟨#[32]⟩) ⟨v.toArray⟩) ⟨nm.toArray⟩
def fitPt (e:Elm) (x:UInt8 × Bs):Bool:=
  if x.1=35 then (atOf e.ats [105,100]).getD []==x.2
  else if x.1=46 then clsM ((atOf e.ats [99,108,97,115,115]).getD []) x.2
  else if x.1=91 then (atOf e.ats x.2).isSome
  else anyNm x.2 || e.name==x.2
def fitSt (M:Dm) (s:Bs) (n:Int):Bool:=match M n with
  | none=>false
  | some e=>e.name != [] && (ptsOf s).all (fitPt e)
def aboveM (M:Dm):Nat->Int->List Int
  | 0,_=>[]
  | f+1,n=>match M n with
    | none=>[]
    | some e=>if e.parent<0 then [] else e.parent :: aboveM M f e.parent
def fitM (M:Dm):Nat->Bs->Int->Bool
  | 0,_,_=>false
  | f+1,s,n=>match cutM s with
    | (a,k,b)=>fitSt M b n && (match k with
      | .no=>true
      | .right=>fitM M f a (match M n with | none => -1 | some e=>e.parent)
      | .below=>(aboveM M 11 n).any (fitM M f a))
end
section
theorem fitM_fuel (M:Dm):∀ (f g:Nat) (s:Bs) (n:Int),s.length<f->s.length<g->fitM M f s n=fitM M g s n
 | 0,_,_,_,h,_=>by omega
 | _,0,_,_,_,h=>by omega
 | f+1,g+1,s,n,hf,hg=>by
  obtain ⟨a,k,b,hc⟩:∃ a k b,cutM s=(a,k,b):=⟨_,_,_,rfl⟩
  rw [fitM,fitM,hc]
  simp only
  cases k with
  | no=>rfl
  | right=>
   have hl:=cutM_len hc (by simp)
   simp only
   rw [fitM_fuel M f g a _ (by omega) (by omega)]
  | below=>
   have hl:=cutM_len hc (by simp)
   simp only
   rw [show (fitM M f a)=fitM M g a from funext fun m=>fitM_fuel M f g a m (by omega) (by omega)]
def fitsM (M:Dm) (s:Bs) (n:Int):Bool:=fitM M (s.length+1) s n
def parM (M:Dm) (n:Int):Int:=match M n with | none => -1 | some e=>e.parent
theorem fitsM_right {M:Dm} {s a b:Bs} (h:cutM s=(a,.right,b)) (n:Int):fitsM M s n=(fitSt M b n && fitsM M a (parM M n)):=by
 have hl:=cutM_len h (by simp)
 rw [fitsM,fitM,h]
 simp only
 rw [fitM_fuel M s.length (a.length+1) a _ hl (by omega)]
 rfl
theorem stepsM_fuel:∀ (f g:Nat) (s:Bs),s.length<f->s.length<g->stepsM f s=stepsM g s
 | 0,_,_,h,_=>by omega
 | _,0,_,_,h=>by omega
 | f+1,g+1,s,hf,hg=>by
  obtain ⟨a,k,b,hc⟩:∃ a k b,cutM s=(a,k,b):=⟨_,_,_,rfl⟩
  rw [stepsM,stepsM,hc]
  cases k with
  | no=>rfl
  | right=>
   have hl:=cutM_len hc (by simp)
   simp only
   rw [stepsM_fuel f g a (by omega) (by omega)]
  | below=>
   have hl:=cutM_len hc (by simp)
   simp only
   rw [stepsM_fuel f g a (by omega) (by omega)]
theorem stsOf_no {s a b:Bs} (h:cutM s=(a,.no,b)):stsOf s=[b]:=by
 rw [stsOf,stepsM,h]
theorem stsOf_more {s a b:Bs} {k:Lk} (h:cutM s=(a,k,b)) (hk:k≠.no):stsOf s=b :: stsOf a:=by
 have hl:=cutM_len h hk
 rw [stsOf,stepsM,h]
 cases k with
 | no=>exact absurd rfl hk
 | right=>simp only;rw [stsOf,stepsM_fuel s.length (a.length+1) a hl (by omega)]
 | below=>simp only;rw [stsOf,stepsM_fuel s.length (a.length+1) a hl (by omega)]
end
section
theorem firstMk_len {s a r:Bs} {m:UInt8} (h:firstMk s=some (a,m,r)):r.length<s.length:=by
 have:=congrArg List.length (firstMk_some h).1
 rw [List.length_append,List.length_cons] at this
 omega
theorem partsM_fuel:∀ (f g:Nat) (k:UInt8) (s:Bs),s.length<f->s.length<g->partsM f k s=partsM g k s
 | 0,_,_,_,h,_=>by omega
 | _,0,_,_,_,h=>by omega
 | f+1,g+1,k,s,hf,hg=>by
  rw [partsM,partsM]
  cases hs:firstMk s with
  | none=>rfl
  | some x=>
   obtain ⟨a,m,r⟩:=x
   have:=firstMk_len hs
   simp only
   rw [partsM_fuel f g m r (by omega) (by omega)]
def pts (k:UInt8) (s:Bs):List (UInt8 × Bs):=partsM (s.length+1) k s
theorem pts_no {k:UInt8} {s:Bs} (h:firstMk s=none):pts k s=[(k,nmIn k s)]:=by
 rw [pts,partsM,h]
theorem pts_more {k m:UInt8} {s a r:Bs} (h:firstMk s=some (a,m,r)):pts k s=(k,nmIn k a) :: pts m r:=by
 have:=firstMk_len h
 rw [pts,partsM,h]
 simp only
 rw [pts,partsM_fuel s.length (r.length+1) m r (by omega) (by omega)]
theorem nmIn_len (k:UInt8) (s:Bs):(nmIn k s).length<=s.length:=by
 unfold nmIn
 split
 ·split
  ·rw [List.length_take];omega
  ·exact Nat.zero_le _
 ·exact Nat.le_refl _
theorem cutM_step {s a b:Bs} {k:Lk} (h:cutM s=(a,k,b)):b.length<=s.length:=by
 unfold cutM at h
 cases hs:lastB s with
 | none=>rw [hs] at h;cases h;exact Nat.le_refl _
 | some x=>
  obtain ⟨x1,x2⟩:=x
  obtain ⟨h1, -⟩:=lastB_some hs
  have h2:x2.length<=s.length:=by rw [h1,List.length_append,List.length_cons];omega
  rw [hs] at h
  simp only at h
  split at h <;> cases h <;> exact h2
theorem wtPts_app (a b:List (UInt8 × Bs)):wtPts (a++b)=wtPts a+wtPts b:=by
 unfold wtPts
 rw [List.map_append,List.sum_append]
end
section
structure Rl where
  wh:Bs
  nm:Bs
  vl:Bs
def kFill:Bs:=[102,105,108,108]
def kShow:Bs:=[115,104,111,119]
def kRule:Bs:=[114,117,108,101]
def kLevel:Bs:=[108,101,118,101,108]
def firstM (s:Bs):Bs:=if s=kFill then [110,111,110,101] else if s=kShow then [121,101,115] else if s=kRule then [119,105,110,100] else if s=kLevel then [48] else []
def isNmS (s:Bs):Bool:=firstM s != []
def isInh (s:Bs):Bool:=s==kFill || s==kRule
def badR (x:Nat):Bool := !((decide (97<=x) && decide (x<=122)) || (decide (48<=x) && decide (x<=57)) || x==45)
def isValM (s:Bs):Bool:=s != [] && decide (s.length<=12) && !decide (0<=Lib.idxFunc badR true ⟨s.toArray⟩)
def RlOk (r:Rl):Prop:=isSelM r.wh=true/\isNmS r.nm=true/\isValM r.vl=true/\r.wh.length<=1000000
def hvStep (p:Rl->Bool) (a:Bs × Bool × Nat) (r:Rl):Bs × Bool × Nat:=if decide (a.2.2<=wtM r.wh) && p r then (r.vl,true,wtM r.wh) else a
def hvM (p:Rl->Bool) (l:List Rl):Bs × Bool × Nat:=l.foldl (hvStep p) ([],false,0)
theorem hvM_snoc (p:Rl->Bool) (l:List Rl) (r:Rl):hvM p (l++[r])=hvStep p (hvM p l) r:=by
  unfold hvM
  rw [List.foldl_append]
  rfl
theorem hvStep_no {p:Rl->Bool} {a:Bs × Bool × Nat} {r:Rl} (h:p r=false):hvStep p a r=a:=by unfold hvStep;rw [h];simp
theorem hvStep_big {p:Rl->Bool} {a:Bs × Bool × Nat} {r:Rl} (h:¬ a.2.2<=wtM r.wh):hvStep p a r=a:=by unfold hvStep;rw [decide_eq_false h];simp
theorem hvStep_yes {p:Rl->Bool} {a:Bs × Bool × Nat} {r:Rl} (h:a.2.2<=wtM r.wh) (hp:p r=true):hvStep p a r=(r.vl,true,wtM r.wh):=by unfold hvStep;rw [decide_eq_true h,hp];simp
def atM (M:Dm) (n:Int) (nm:Bs):Option Bs:=match M n with | none=>none | some e=>atOf e.ats nm
def rlFits (M:Dm) (nm:Bs) (n:Int) (r:Rl):Bool:=r.nm==nm && fitsM M r.wh n
def toldM (M:Dm) (l:List Rl) (nm:Bs) (n:Int):Option Bs:=match atM M n nm with
  | some v=>some v
  | none=>if (hvM (rlFits M nm n) l).2.1 then some (hvM (rlFits M nm n) l).1 else none
def ofF (M:Dm) (l:List Rl) (nm:Bs):Nat->Int->Bs
  | 0,_=>firstM nm
  | f+1,n=>if n<0 then firstM nm else match toldM M l nm n with
    | some v=>v
    | none=>if isInh nm then ofF M l nm f (parM M n) else firstM nm
def ofM (M:Dm) (l:List Rl) (nm:Bs) (n:Int):Bs:=if (M n).isSome && isNmS nm then ofF M l nm 12 n else []
end
end Go.Proofs.YtgphclgmmocdhaaGreatDoor

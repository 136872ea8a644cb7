import Derived.Test.YtbkjmamcnflncaaGreatDoorQt44
namespace Go.Proofs.YtbkjmamcnflncaaGreatDoor
open Go.Proofs.Tryz
set_option maxHeartbeats 8000000
variable{s:aO}{d:List (List UInt8)}
section
open Go.RowKit
def pieces (c:UInt8):List UInt8->List (List UInt8)
 |[]=>[[]]
 |b::l=>if b=c then[]::pieces c l else match pieces c l with
  |[]=>[[b]]
  |p::a=>(b::p)::a
theorem EA {c:UInt8}:∀{x:List UInt8},(∀b∈x,b≠c)->pieces c x=[x]
 |[],_=>rfl
 |b::l,h=>by
  have e:=EA (c:=c) (x:=l) (λa d=>h a (FM _ d));unfold pieces;grind
theorem Jz {c:UInt8}{y:List UInt8}:∀{x:List UInt8},(∀b∈x,b≠c)->pieces c (x++c::y)=x::pieces c y
 |[],_=>by simp[pieces]
 |b::l,h=>by
  have f:=Jz (c:=c) (y:=y) (x:=l) (λa d=>h a (FM _ d));rw[gH];show(if b=c then[]::pieces c (l++c::y) else match pieces c (l++c::y) with|[]=>[[b]]|p::e=>(b::p)::e)=_;grind
def strs (a:List (List UInt8)):List ax:=a.map λp=>au ⟨p.toArray⟩
theorem a9w:(prog.info? 9).map (λi=>(i.zero,i.size,i.bytes))=some (some (au ByteArray.empty),1,16):=aA
structure pM (c:UInt8)(s:aO)(done:List (List UInt8))(from_ k:Nat):Prop where
 all:pieces c s.data.toList=done++pieces c (s.data.toList.drop from_)
 le:from_<=k
 none:∀b∈(s.data.toList.drop from_).take (k-from_),b≠c
 few:done.length<=from_
theorem pM.start (c:UInt8)(s:aO):pM c s [] 0 0:=⟨aI,bJ _,aI,bJ _⟩
theorem EC {a k:Nat}(b:k<s.size)(c:a<=k):s.data.toList.drop a=(s.data.toList.drop a).take (k-a)++s[k]::s.data.toList.drop (k+1):=by
 have e:(s.data.toList.drop a).drop (k-a)=s[k]::s.data.toList.drop (k+1):=by
  rw[nC,show a+(k-a)=k by omega,wz (by rw[mH];exact b)];rfl
 rw[<- e,jS]
theorem pM.hit {c:UInt8}{a k:Nat}(h:pM c s d a k)(f:k<s.size)(hc:s[k]=c):
  pM c s (d++[(s.extract a k).data.toList]) (k+1) (k+1):=by
 have e:(s.extract a k).data.toList=(s.data.toList.drop a).take (k-a):=Lib.extract_data s a k;refine⟨?_,bJ _,aI,?_⟩
 .have b:=EC f h.le;rw[hc] at b;rw[h.all,b,Jz h.none,e,lF];rfl
 .have:=h.few;have:=h.le;simp;omega
theorem pM.miss {c:UInt8}{a k:Nat}(h:pM c s d a k)(i:k<s.size)(hc:s[k]≠c):pM c s d a (k+1):=by
 refine⟨h.all,Nat.le_succ_of_le h.le,?_,h.few⟩;have e:(s.data.toList.drop a).take (k+1-a)=(s.data.toList.drop a).take (k-a)++[s[k]]:=by
  have j:=EC i h.le;have g:((s.data.toList.drop a).take (k-a)).length=k-a:=by grind
  conv=>lhs;rw[j]
  rw[List.take_append,g,jH (by rw[g];omega),show k+1-a-(k-a)=1 by have:=h.le;omega];rfl
 rw[e];intro b f;rcases iw.1 f with f|f
 .exact h.none b f
 .grind
theorem pM.fin {c:UInt8}{a:Nat}(h:pM c s d a s.size):d++[(s.extract a s.size).data.toList]=pieces c s.data.toList:=by
 have e:(s.extract a s.size).data.toList=s.data.toList.drop a:=Lib.extract_to_end s a;have f:∀b∈s.data.toList.drop a,b≠c:=by
  have:=h.none;rwa[jH (by rw[lC,mH];exact bJ _)] at this
 rw[h.all,EA f,e]
theorem a0L (a:List (List UInt8))(t:aO):strs (a++[t.data.toList])=strs a++[au t]:=by
 have:(⟨t.data.toList.toArray⟩:aO)=t:=by grind
 simp[strs,this]
theorem a9x {a b:UInt8}(h:(a.toNat:Int)=b.toNat):a=b:=UInt8.toNat_inj.1 aa
theorem a5y {w:ai}{a:Nat}{e:TypeId}{b:Nat}{v:ax}{n:Nat}{d:List ax}(h:w.ownsRow a e b v n d):∀k,v.ownBlock=some k->a<=k:=by
 obtain⟨_,f⟩:=h;rcases f with⟨rfl,_⟩|⟨g,i,j,rfl,l,_⟩
 .intro k c;cases c
 .intro k c;cases c;exact l
theorem Tw {w:ai}{a:Nat}{e:TypeId}{v:ax}{t:aO}(h:w.ownsRow a e 1 v (d.length+1) (strs d++[au t])):w.ownsRow a e 1 v (d++[t.data.toList]).length (strs (d++[t.data.toList])):=by
 rw[a0L,dO];exact h
theorem a9y (s:aO)(c:UInt8)(w:ai)(K:s.size<=1000000):
  aL 8 #[au s,.int .u8 c.toNat] w λe w'=>∃v,e=ay v/\w'.ownsRow w.heap.size 9 1 v (pieces c s.data.toList).length (strs (pieces c s.data.toList))/\aD w w':=by
 obtain⟨C,D,l,m,n⟩:=info_parts a9w;go_enter func8,ntmps8;go_wp2
 go_loopw [5,6,7] (λv x y wr=>∃(d:List (List UInt8)) (a k:Nat),k<=s.size/\x=ag a/\y=ag k/\pM c s d a k/\wr.ownsRow w.heap.size 9 1 v d.length (strs d)/\aD w wr) (λ_ _ y _=>s.size-(intOf y).toNat)
 case atStart=>exact⟨[],0,0,bA _,rfl,rfl,pM.start c s,gp _ _ _ _,aW _ _⟩
 case round=>
  obtain⟨d,a,k,L,rfl,rfl,b,i,t⟩:=hrel;have z:=aF b;have o:=aF i;have F:=b.le;have H:=b.few;have p:=t.size;clear b i;by_cases q:k<s.size
  .have E:(k:Int)<(s.size:Int):=aa;have A:(a:Int)<=(k:Int):=aa;by_cases u:s[k]=c
   .have B:((s[k].toNat:Int)==(c.toNat:Int))=true:=by rw[u];simp
    go_wp2_with(at_builtin;refine wpList_append_own _ rfl _ _ 22 rfl w.heap.size 9 C (au ByteArray.empty) 1 16 underlying22 D l m n rfl aC _ _ _ rfl (iF o.out _) ⟨wr.heap.size,0,none⟩ 1 1 [au (s.extract a k)] rfl rfl (cell_one_new _ _ _) (λx r=>by simp at r;subst r;rfl) (by unfold maxLen;omega) aa bq ?_;intro I J f g _);have j:=(t.alloc p _).grown g bq (a5y o.out)
    go_roundw
    case rel=>exact⟨_,k+1,k+1,aa,by go_num,by go_num,z.out.hit q u,Tw f,j⟩
    case measure=>simp[intOf];omega
   .have B:((s[k].toNat:Int)==(c.toNat:Int))=false:=by rw[dW];exact λe=>u (a9x e)
    go_wp2
    go_roundw
    case rel=>exact⟨d,a,k+1,aa,rfl,by go_num,z.out.miss q u,o.out,t⟩
    case measure=>simp[intOf];omega
  .obtain rfl:k=s.size:=aa;have A:(a:Int)<=(s.size:Int):=aa;go_wp2_with(at_builtin;refine wpList_append_own _ rfl _ _ 22 rfl w.heap.size 9 C (au ByteArray.empty) 1 16 underlying22 D l m n rfl aC _ _ _ rfl (iF o.out _) ⟨wr.heap.size,0,none⟩ 1 1 [au (s.extract a s.size)] rfl rfl (cell_one_new _ _ _) (λx r=>by simp at r;subst r;rfl) (by unfold maxLen;omega) aa bq ?_;intro I J f g _);have j:=(t.alloc p _).grown g bq (a5y o.out);have h:=Tw f;rw[z.out.fin] at h;go_ret;exact⟨_,rfl,h,j⟩
end
open Go.RowKit Go.Maps Go.Shelf
set_option maxRecDepth 20000
def fmT (i:Nat):Int×Bool×Bool:=match i with
 |0=>(0,false,true)|1=>(0,false,true)|2=>(2,true,false)|3=>(1,false,false)|4=>(3,false,false)|5=>(1,true,true)|6=>(1,true,false)|9=>(0,false,true)|10=>(1,true,false)|_=>(0,false,false)
def fmC (o:Option Nat):Int×Bool×Bool:=match o with
 |none=>(0,false,false)
 |some i=>fmT i
variable {E:Nat->Addr}{T:Nat->Bs}{W:ai}
theorem Wj (y:Bs)(W:ai):aL 9 #[bV y] W λe w'=>e=ay (aH #[ag (fmC (Aa y)).1,.bool (fmC (Aa y)).2.1,.bool (fmC (Aa y)).2.2,.bool (Aa y).isSome])/\w'=W:=by
 have s:∀z:Bs,z∈[[99,111,117,110,116],[112,105,101,99,101,115],[115,116,121,108,101],[102,105,110,100],[116,101,120,116],[115,104,111,119],[117,110,115,101,116],[115,101,116],[109,111,118,101],[114,101,109,111,118,101],[97,100,100],[115,104,101,101,116],[111,112,101,110]]->aL 9 #[bV z] W λe w'=>e=ay (aH #[ag (fmC (Aa z)).1,.bool (fmC (Aa z)).2.1,.bool (fmC (Aa z)).2.2,.bool (Aa z).isSome])/\w'=W:=by
  intro z g;simp only[gP,List.not_mem_nil,or_false] at g;rcases g with rfl|rfl|rfl|rfl|rfl|rfl|rfl|rfl|rfl|rfl|rfl|rfl|rfl
  all_goals
   go_enter func9,ntmps9;go_wp2_with fail;exact bg (by simp[results,results9,go_sem];exact⟨rfl,rfl,rfl,rfl⟩) rfl ⟨rfl,rfl⟩
 by_cases g:y∈[[99,111,117,110,116],[112,105,101,99,101,115],[115,116,121,108,101],[102,105,110,100],[116,101,120,116],[115,104,111,119],[117,110,115,101,116],[115,101,116],[109,111,118,101],[114,101,109,111,118,101],[97,100,100],[115,104,101,101,116],[111,112,101,110]]
 .exact s y g
 simp only[gP,List.not_mem_nil,or_false,not_or] at g;obtain⟨h,i,j,k,m,n,o,p,q,a,c,d,f⟩:=g;have t:Aa y=none:=by
  unfold Aa;simp only[h,i,j,k,m,n,o,p,q,a,c,d,f,if_false]
 rw[t];obtain⟨b,r⟩:∃b:aO,⟨y.toArray⟩=b:=⟨_,rfl⟩;have K:∀l:Bs,¬y=l->(b.toList==l)=false:=λl u=>by
  rw[gN,<- r,dW];exact u
 have C:=K _ h;have D:=K _ i;have E:=K _ j;have F:=K _ k;have H:=K _ m;have I:=K _ n;have J:=K _ o;have L:=K _ p;have M:=K _ q;have w:=K _ a;have x:=K _ c;have A:=K _ d;have B:=K _ f;rw[show bV y=au b by rw[<- r]];clear h i j k m n o p q a c d f r t s K;go_enter func9,ntmps9;go_wp2_with fail;exact bg (v:=aH #[ag 0,.bool false,.bool false,.bool false]) (by simp[results,results9,go_sem]) rfl ⟨rfl,rfl⟩

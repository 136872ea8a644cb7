import Derived.Lib.ItoaNum
import Derived.Test.YtbkjmamcnflncaaGreatDoorQt2
namespace Go.Proofs.YtbkjmamcnflncaaGreatDoor
open Go.Proofs.Tryz
set_option maxHeartbeats 2000000
variable{k:Nat}{s:aO}
section
theorem a1E {P:List UInt8->Prop}(a:P [])(b:∀l c,P l->P (l++[c]))(l:List UInt8):P l:=by
 have h:∀r:List UInt8,P r.reverse:=by
  intro r
  induction r with
  |nil=>simpa using a
  |cons c r d=>rw[List.reverse_cons];exact b _ _ d
 simpa using h l.reverse
def digit (c:UInt8):Bool:=decide (48<=c.toNat) && decide (c.toNat<=57)
def val (l:List UInt8):Nat:=l.foldl (λn c=>n*10+(c.toNat-48)) 0
def fits (l:List UInt8):Bool:=decide (1<=l.length) && decide (l.length<=10) && !(decide (1<l.length) && decide (l.head? =some 48))
def Ak (l:List UInt8):Bool:=fits l && l.all digit
theorem Pg (l:List UInt8)(c:UInt8):val (l++[c])=val l*10+(c.toNat-48):=by simp[val]
theorem Ph (l:List UInt8)(c:UInt8):(l++[c]).all digit=(l.all digit && digit c):=aI
theorem Ch {c:UInt8}:digit c=true↔48<=c.toNat/\c.toNat<=57:=by simp[digit]
theorem a1F:∀(l:List UInt8),l.all digit=true->val l<10 ^ l.length:=by
 refine a1E ?_ ?_
 .intro _;simp[val]
 .intro l c a h;rw[Ph,jg] at h;obtain⟨b,d⟩:=Ch.1 h.2;have:=a h.1;rw[Pg,dO,List.length_singleton,Nat.pow_succ];omega
theorem WM (h:k<=10):10 ^ k<=10000000000:=by
 have:10 ^ k<=10 ^ 10:=Nat.pow_le_pow_right aC h;omega
theorem ab1 {l:List UInt8}(h:l.all digit=true)(a:l.length<=10):val l<10000000000:=fK (a1F l h) (WM a)
theorem Gh {l:List UInt8}:fits l=true↔1<=l.length/\l.length<=10/\¬(1<l.length/\l.head? =some 48):=by
 simp only[fits,jg,lG,Bool.not_eq_true',Bool.and_eq_false_iff,decide_eq_false_iff_not];grind
theorem Pj (s:aO)(k:Nat)(h:k<s.size):s.data.toList.take (k+1)=s.data.toList.take k++[s[k]]:=by
 rw[List.take_succ_eq_append_getElem (by simpa using h)];rfl
end
open Go.RowKit
theorem mH (s:aO):s.data.toList.length=s.size:=by rw[Array.length_toList];rfl
theorem WN (s:aO)(h:0<s.size):s.data.toList.head? =some s[0]:=by
 rw[List.head?_eq_getElem?,fD (by simpa using h)];rfl
theorem WQ (c:UInt8):(c.toNat:Int)<=255:=by have:=c.toNat_lt;omega
theorem Pk {c:UInt8}:(c.toNat:Int)=48↔c=48:=by
 constructor
 .intro h;apply UInt8.toNat_inj.1;simp;omega
 .rintro rfl;rfl
def DJ (s:aO)(k:Nat):Prop:=(s.data.toList.take k).all digit=true
theorem YE (h:DJ s k)(a:k<=10):(val (s.data.toList.take k):Int)<10000000000:=by
 have c:=a1F _ h;have b:(s.data.toList.take k).length<=k:=by grind
 have d:=WM (bO b a);omega
theorem YF (a:k<s.size)(h:DJ s k)(b:48<=(s[k].toNat:Int))(c:(s[k].toNat:Int)<=57):DJ s (k+1)/\(val (s.data.toList.take (k+1)):Int)=val (s.data.toList.take k)*10+(s[k].toNat-48):=by
 unfold DJ at*;rw[Pj s k a,Ph,Pg];exact⟨by rw[h,Ch.2 ⟨aa,aa⟩];rfl,aa⟩
theorem a1G (a:k<s.size)(h:(s[k].toNat:Int)<48\/57<(s[k].toNat:Int)):s.data.toList.all digit=false:=by
 rw[List.all_eq_false];refine⟨s[k],?_,?_⟩
 .have:s.data.toList[k]'(by simpa using a)=s[k]:=rfl;grind
 .rw[Ch];omega
theorem YG (h:DJ s s.size):s.data.toList.all digit=true/\s.data.toList.take s.size=s.data.toList:=by
 have:s.data.toList.take s.size=s.data.toList:=jH (by rw[mH];exact bJ _);unfold DJ at h;grind
theorem a6q (a:0<s.size)(b:¬10<s.size)(c:¬(1<s.size/\s[0]=48)):fits s.data.toList=true:=by
 rw[Gh,WN s a,mH];grind
theorem a1H (h:s.size=0\/10<s.size\/∃d:0<s.size,1<s.size/\s[0]=48):fits s.data.toList=false:=by
 rw[Bool.eq_false_iff,Ne,Gh];rintro⟨a,b,c⟩;rw[mH] at a b c;rcases h with h|h|⟨d,e,f⟩
 .omega
 .omega
 .exact c ⟨e,by rw[WN s d,f]⟩
theorem EJ (s:aO)(w:ai)(M:0<s.size)(N:¬10<s.size)(o:¬(1<s.size/\s[0]=48))(r:Bool)(v:Int)(p:s.data.toList.all digit=r)(q:(if r=true then(val s.data.toList:Int) else 0)=v):
    aL 351 #[au s] w λe w'=>e=ay (aH #[ag v,.bool r])/\w'=w:=by
  have g:=aF p;have j:=aF q;clear p q;have hE:s.toList.isEmpty=false:=by
    rw[gN,List.isEmpty_eq_false_iff];intro e;have:=mH s;rw[e] at this;simp at this;omega
  have E:(s.size:Int)<=10:=aa;have b:∀k,k=s.size->DJ s k->r=true/\v=val (s.data.toList.take k):=by
    rintro k rfl c;obtain⟨l,F⟩:=YG c;have:=g.out;rw[l] at this;subst this;exact⟨rfl,by have:=j.out;rw[aR rfl] at this;rw[F];exact this.symm⟩
  have m:=aF b;have d:∀k (c:k<s.size),((s[k].toNat:Int)<48\/57<(s[k].toNat:Int))->r=false/\v=0:=by
    intro k c t;have:=g.out;rw[a1G c t] at this;subst this;exact⟨rfl,by have:=j.out;rw[aG aI] at this;exact this.symm⟩
  have f:=aF d;clear b d g j;by_cases H:(s[0].toNat:Int)=48
  all_goals
    first
    |(have I:(!s.toList==[48])=false:=by
        have u:s[0]=48:=Pk.1 H;have l:s.size=1:=by by_cases h:1<s.size;exact absurd ⟨h,u⟩ o;omega
        have:s.toList=[48]:=by
          rw[gN];apply List.ext_getElem
          . rw[mH,l];rfl
          . intro i O z
            simp at z;subst z;exact u
        rw[this];rfl)
    |skip
    clear o;go_enter func351,ntmps351;go_wp2
    go_loop [4,5] (λx y=>∃k:Nat,k<=s.size/\y=ag k/\x=ag (val (s.data.toList.take k):Nat)/\DJ s k) (λ_ y=>s.size-(intOf y).toNat)
    case atStart=>exact⟨0,bA _,rfl,rfl,rfl⟩
    case round=>
      obtain⟨k,c,rfl,rfl,n⟩:=hrel;have J:=YE n aa;have A:=aF n;clear n;by_cases a:k<s.size
      . have B:(k:Int)<(s.size:Int):=aa
        have t:=WQ s[k];by_cases K:(s[k].toNat:Int)<48
        . obtain⟨rfl,rfl⟩:=f.out k a (Or.inl K)
          go_wp2
          go_ret2
          exact⟨rfl,rfl⟩
        . by_cases L:57<(s[k].toNat:Int)
          . obtain⟨rfl,rfl⟩:=f.out k a (Or.inr L)
            go_wp2
            go_ret2
            exact⟨rfl,rfl⟩
          . have C:=YF a A.out aa aa
            have D:=aF C;clear C;go_wp2
            go_round
            case rel=>exact⟨k+1,aa,by go_num,by rw[D.out.2],D.out.1⟩
            case measure=>simp[intOf];omega
      . obtain⟨rfl,rfl⟩:=m.out k aa A.out
        go_wp2
        go_ret2
        exact⟨rfl,rfl⟩
theorem Gi (s:aO)(w:ai)(h:s.size=0\/10<s.size\/∃a:0<s.size,1<s.size/\s[0]=48):
  aL 351 #[au s] w λe w'=>e=ay (aH #[ag 0,.bool false])/\w'=w:=by
 by_cases a:s.size=0
 .have b:s.toList=[]:=by
   rw[gN];exact lu.1 (by rw[mH];exact a)
  clear h;go_enter func351,ntmps351;go_wp2
  go_ret2
  exact⟨rfl,rfl⟩
 have hE:s.toList.isEmpty=false:=by
  rw[gN,List.isEmpty_eq_false_iff];intro e;have:=mH s;rw[e] at this;simp at this;omega
 have b:¬s.toList=[]:=by intro e;rw[e] at hE;simp at hE
 by_cases f:10<s.size
 .have g:(10:Int)<(s.size:Int):=aa;clear h;go_enter func351,ntmps351;go_wp2
  go_ret2
  exact⟨rfl,rfl⟩
 obtain⟨k,l,d⟩:∃a:0<s.size,1<s.size/\s[0]=48:=by
  rcases h with h|h|h
  .exact absurd h a
  .exact absurd h f
  .exact h
 have i:(s.size:Int)<=10:=aa;have m:(s[0].toNat:Int)=48:=Pk.2 d;have j:(!s.toList==[48])=true:=by
  have c:¬s.toList=[48]:=by
   intro e;rw[gN] at e;have:=mH s;rw[e] at this;simp at this;omega
  simpa using c
 clear h d;go_enter func351,ntmps351;go_wp2
 go_ret2
 exact⟨rfl,rfl⟩
theorem Gj (s:aO)(w:ai):
  aL 351 #[au s] w λe w'=>e=ay (aH #[ag (if Ak s.data.toList=true then(val s.data.toList:Int) else 0),.bool (Ak s.data.toList)])/\w'=w:=by
 by_cases h:s.size=0\/10<s.size\/∃a:0<s.size,1<s.size/\s[0]=48
 .have e:Ak s.data.toList=false:=by unfold Ak;rw[a1H h];rfl
  rw[e,aG aI];exact Gi s w h
 .have a:0<s.size:=aa;have e:Ak s.data.toList=s.data.toList.all digit:=by unfold Ak;rw[a6q a (λe=>h (Or.inr (Or.inl e))) (λe=>h (Or.inr (Or.inr ⟨a,e⟩)))];rfl
  rw[e];exact EJ s w a (λe=>h (Or.inr (Or.inl e))) (λe=>h (Or.inr (Or.inr ⟨a,e⟩))) _ _ rfl rfl

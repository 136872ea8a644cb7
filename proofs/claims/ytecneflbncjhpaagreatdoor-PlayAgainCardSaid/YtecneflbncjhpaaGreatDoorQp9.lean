/- Parts of the proof. -/
import Derived.Lib.ItoaNum
import Derived.Test.YtecneflbncjhpaaGreatDoorQp0
namespace Go.Proofs.YtecneflbncjhpaaGreatDoor
open Go.Proofs.Tryz
set_option maxHeartbeats 2000000
section
theorem X5 {P:List UInt8->Prop}(h0:P [])(h1:∀l c,P l->P (l++[c]))(l:List UInt8):P l:=by
 have h:∀r:List UInt8,P r.reverse:=by
  intro r
  induction r with
  |nil=>simpa using h0
  |cons c r ih=>rw[List.reverse_cons];exact h1 _ _ ih
 simpa using h l.reverse
def digit (c:UInt8):Bool:=decide (48<=c.toNat) && decide (c.toNat<=57)
def val (l:List UInt8):Nat:=l.foldl (fun n c=>n*10+(c.toNat-48)) 0
def fits (l:List UInt8):Bool:=decide (1<=l.length) && decide (l.length<=10) && !(decide (1<l.length) && decide (l.head? =some 48))
def wF (l:List UInt8):Bool:=fits l && l.all digit
theorem Kc (l:List UInt8)(c:UInt8):val (l++[c])=val l*10+(c.toNat-48):=by simp[val]
theorem Ke (l:List UInt8)(c:UInt8):(l++[c]).all digit=(l.all digit && digit c):=by simp
theorem xR {c:UInt8}:digit c=true↔48<=c.toNat/\c.toNat<=57:=by simp[digit]
theorem X6:∀(l:List UInt8),l.all digit=true->val l<10 ^ l.length:=by
 refine X5 ?_ ?_
 ·intro _;simp[val]
 ·intro l c ih h;rw[Ke,Bool.and_eq_true] at h;obtain⟨h1,h2⟩:=xR.1 h.2;have:=ih h.1;rw[Kc,List.length_append,List.length_singleton,Nat.pow_succ];omega
theorem Qy {k:Nat}(h:k<=10):10 ^ k<=10000000000:=by
 have:10 ^ k<=10 ^ 10:=Nat.pow_le_pow_right (by decide) h;omega
theorem a5e {l:List UInt8}(h:l.all digit=true)(hl:l.length<=10):val l<10000000000:=bI (X6 l h) (Qy hl)
theorem BA {l:List UInt8}:fits l=true↔1<=l.length/\l.length<=10/\¬(1<l.length/\l.head? =some 48):=by
 simp only[fits,Bool.and_eq_true,decide_eq_true_eq,Bool.not_eq_true',Bool.and_eq_false_iff,decide_eq_false_iff_not];constructor
 ·rintro⟨⟨a,b⟩,c⟩;exact⟨a,b,fun h=>by rcases c with c|c;exact c h.1;exact c h.2⟩
 ·rintro⟨a,b,c⟩;exact⟨⟨a,b⟩,by by_cases h:1<l.length;exact Or.inr (fun e=>c ⟨h,e⟩);exact Or.inl h⟩
theorem Kg (s:aC)(k:Nat)(h:k<s.size):s.data.toList.take (k+1)=s.data.toList.take k++[s[k]]:=by
 rw[List.take_succ_eq_append_getElem (by simpa using h)];rfl
end
section
open Go.RowKit
theorem kg (s:aC):s.data.toList.length=s.size:=by rw[Array.length_toList];rfl
theorem Qz (s:aC)(h:0<s.size):s.data.toList.head? =some s[0]:=by
 rw[List.head?_eq_getElem?,dK (by simpa using h)];rfl
theorem a0Y (c:UInt8):(c.toNat:Int)<=255:=by have:=c.toNat_lt;omega
theorem Kh {c:UInt8}:(c.toNat:Int)=48↔c=48:=by
 constructor
 ·intro h;apply UInt8.toNat_inj.1;simp;omega
 ·rintro rfl;rfl
def ze (s:aC)(k:Nat):Prop:=(s.data.toList.take k).all digit=true
theorem Tx {s:aC}{k:Nat}(h:ze s k)(hk:k<=10):(val (s.data.toList.take k):Int)<10000000000:=by
 have h1:=X6 _ h;have h2:(s.data.toList.take k).length<=k:=List.length_take_le _ _;have h3:=Qy (aJ h2 hk);omega
theorem Ty {s:aC}{k:Nat}(hk:k<s.size)(h:ze s k)(h1:48<=(s[k].toNat:Int))(h2:(s[k].toNat:Int)<=57):ze s (k+1)/\(val (s.data.toList.take (k+1)):Int)=val (s.data.toList.take k)*10+(s[k].toNat-48):=by
 unfold ze at*;rw[Kg s k hk,Ke,Kc];exact⟨by rw[h,xR.2 ⟨by omega,by omega⟩];rfl,by omega⟩
theorem X7 {s:aC}{k:Nat}(hk:k<s.size)(h:(s[k].toNat:Int)<48\/57<(s[k].toNat:Int)):s.data.toList.all digit=false:=by
 rw[List.all_eq_false];refine⟨s[k],?_,?_⟩
 ·have:s.data.toList[k]'(by simpa using hk)=s[k]:=rfl;rw[<- this];exact List.getElem_mem _
 ·rw[xR];omega
theorem Tz {s:aC}(h:ze s s.size):s.data.toList.all digit=true/\s.data.toList.take s.size=s.data.toList:=by
 have:s.data.toList.take s.size=s.data.toList:=List.take_of_length_le (by rw[kg];exact Nat.le_refl _);unfold ze at h;rw[this] at h;exact⟨h,this⟩
theorem a0Z {s:aC}(h0:0<s.size)(h1:¬10<s.size)(h2:¬(1<s.size/\s[0]=48)):fits s.data.toList=true:=by
 rw[BA,Qz s h0,kg];refine⟨h0,by omega,?_⟩;rintro⟨a,b⟩;exact h2 ⟨a,dP b⟩
theorem X8 {s:aC}(h:s.size=0\/10<s.size\/∃h0:0<s.size,1<s.size/\s[0]=48):fits s.data.toList=false:=by
 rw[Bool.eq_false_iff,Ne,BA];rintro⟨a,b,c⟩;rw[kg] at a b c;rcases h with h|h|⟨h0,h1,h2⟩
 ·omega
 ·omega
 ·exact c ⟨h1,by rw[Qz s h0,h2]⟩
theorem zR (s:aC)(w:ag)(h0:0<s.size)(h1:¬10<s.size)(h2:¬(1<s.size/\s[0]=48))(r:Bool)(v:Int)(hr:s.data.toList.all digit=r)(hv:(if r=true then(val s.data.toList:Int) else 0)=v):
    au 273 #[.string s] w fun e w'=>e=.returned (.tuple #[aa v,.bool r])/\w'=w:=by
  have HR:=aj hr;have HV:=aj hv;clear hr hv;have hE:s.toList.isEmpty=false:=by
    rw[ByteArray.toList_eq,List.isEmpty_eq_false_iff];intro e;have:=kg s;rw[e] at this;simp at this;omega
  have hsz:(s.size:Int)<=10:=by omega
  have fin:∀k,k=s.size->ze s k->r=true/\v=val (s.data.toList.take k):=by
    rintro k rfl hk;obtain⟨e1,e2⟩:=Tz hk;have:=HR.out;rw[e1] at this;subst this;exact⟨rfl,by have:=HV.out;rw[if_pos rfl] at this;rw[e2];exact this.symm⟩
  have FIN:=aj fin;have bad:∀k (hk:k<s.size),((s[k].toNat:Int)<48\/57<(s[k].toNat:Int))->r=false/\v=0:=by
    intro k hk hb;have:=HR.out;rw[X7 hk hb] at this;subst this;exact⟨rfl,by have:=HV.out;rw[if_neg (by simp)] at this;exact this.symm⟩
  have BAD:=aj bad;clear fin bad HR HV;by_cases hc:(s[0].toNat:Int)=48
  all_goals
    first
    |(have h48:(!s.toList==[48])=false:=by
        have e0:s[0]=48:=Kh.1 hc;have e1:s.size=1:=by by_cases h:1<s.size;exact absurd ⟨h,e0⟩ h2;omega
        have:s.toList=[48]:=by
          rw[ByteArray.toList_eq];apply List.ext_getElem
          · rw[kg,e1];rfl
          · intro i i1 i2
            simp at i2;subst i2;exact e0
        rw[this];rfl)
    |skip
    clear h2;go_enter func273,ntmps273;go_wp2
    go_loop [4,5] (fun x y=>∃k:Nat,k<=s.size/\y=aa k/\x=aa (val (s.data.toList.take k):Nat)/\ze s k) (fun _ y=>s.size-(intOf y).toNat)
    case atStart=>exact⟨0,aP _,rfl,rfl,rfl⟩
    case round=>
      obtain⟨k,hk,rfl,rfl,hsf⟩:=hrel;have hv1:=Tx hsf (by omega);have SF:=aj hsf;clear hsf;by_cases hlt:k<s.size
      · have hlt':(k:Int)<(s.size:Int):=by omega
        have hb:=a0Y s[k];by_cases c1:(s[k].toNat:Int)<48
        · obtain⟨rfl,rfl⟩:=BAD.out k hlt (Or.inl c1)
          go_wp2
          go_ret2
          exact⟨rfl,rfl⟩
        · by_cases c2:57<(s[k].toNat:Int)
          · obtain⟨rfl,rfl⟩:=BAD.out k hlt (Or.inr c2)
            go_wp2
            go_ret2
            exact⟨rfl,rfl⟩
          · have hy:=Ty hlt SF.out (by omega) (by omega)
            have HY:=aj hy;clear hy;go_wp2
            go_round
            case rel=>exact⟨k+1,by omega,by go_num,by rw[HY.out.2],HY.out.1⟩
            case measure=>simp[intOf];omega
      · obtain⟨rfl,rfl⟩:=FIN.out k (by omega) SF.out
        go_wp2
        go_ret2
        exact⟨rfl,rfl⟩
theorem BB (s:aC)(w:ag)(h:s.size=0\/10<s.size\/∃h0:0<s.size,1<s.size/\s[0]=48):
  au 273 #[.string s] w fun e w'=>e=.returned (.tuple #[aa 0,.bool false])/\w'=w:=by
 by_cases h0:s.size=0
 ·have hE':s.toList=[]:=by
   rw[ByteArray.toList_eq];exact iC.1 (by rw[kg];exact h0)
  clear h;go_enter func273,ntmps273;go_wp2
  go_ret2
  exact⟨rfl,rfl⟩
 have hE:s.toList.isEmpty=false:=by
  rw[ByteArray.toList_eq,List.isEmpty_eq_false_iff];intro e;have:=kg s;rw[e] at this;simp at this;omega
 have hE':¬s.toList=[]:=by intro e;rw[e] at hE;simp at hE
 by_cases h1:10<s.size
 ·have h1':(10:Int)<(s.size:Int):=by omega
  clear h;go_enter func273,ntmps273;go_wp2
  go_ret2
  exact⟨rfl,rfl⟩
 obtain⟨hp,h2,h3⟩:∃h0:0<s.size,1<s.size/\s[0]=48:=by
  rcases h with h|h|h
  ·exact absurd h h0
  ·exact absurd h h1
  ·exact h
 have hsz:(s.size:Int)<=10:=by omega
 have hc:(s[0].toNat:Int)=48:=Kh.2 h3;have h48:(!s.toList==[48])=true:=by
  have hne:¬s.toList=[48]:=by
   intro e;rw[ByteArray.toList_eq] at e;have:=kg s;rw[e] at this;simp at this;omega
  simpa using hne
 clear h h3;go_enter func273,ntmps273;go_wp2
 go_ret2
 exact⟨rfl,rfl⟩
theorem BD (s:aC)(w:ag):
  au 273 #[.string s] w fun e w'=>e=.returned (.tuple #[aa (if wF s.data.toList=true then(val s.data.toList:Int) else 0),.bool (wF s.data.toList)])/\w'=w:=by
 by_cases h:s.size=0\/10<s.size\/∃h0:0<s.size,1<s.size/\s[0]=48
 ·have e:wF s.data.toList=false:=by unfold wF;rw[X8 h];rfl
  rw[e,if_neg (by simp)];exact BB s w h
 ·have h0:0<s.size:=by
   rcases Nat.eq_zero_or_pos s.size with e|e
   ·exact absurd (Or.inl e) h
   ·exact e
  have e:wF s.data.toList=s.data.toList.all digit:=by unfold wF;rw[a0Z h0 (fun e=>h (Or.inr (Or.inl e))) (fun e=>h (Or.inr (Or.inr ⟨h0,e⟩)))];rfl
  rw[e];exact zR s w h0 (fun e=>h (Or.inr (Or.inl e))) (fun e=>h (Or.inr (Or.inr ⟨h0,e⟩))) _ _ rfl rfl
end
end Go.Proofs.YtecneflbncjhpaaGreatDoor

/- Parts of the proof. -/
import Derived.Test.YtjfiehbcamfdfaaGreatDoorQz7
namespace Go.Proofs.YtjfiehbcamfdfaaGreatDoor
open Go.Proofs.Tryz
open Go.RowKit
set_option maxHeartbeats 2000000
theorem jG (s:aD):s.data.toList.length=s.size:=by rw[Array.length_toList];rfl
theorem OX (s:aD)(h:0<s.size):s.data.toList.head? =some s[0]:=by
  rw[List.head?_eq_getElem?,List.getElem?_eq_getElem (by simpa using h)];rfl
theorem Zr (c:UInt8):(c.toNat:Int)<=255:=by have:=c.toNat_lt;omega
theorem J2 {c:UInt8}:(c.toNat:Int)=48↔c=48:=by
  constructor
  · intro h;apply UInt8.toNat_inj.1;simp;omega
  · rintro rfl;rfl
def yl (s:aD)(k:Nat):Prop:=(s.data.toList.take k).all digit=true
theorem Ra {s:aD}{k:Nat}(h:yl s k)(hk:k<=10):(val (s.data.toList.take k):Int)<10000000000:=by
  have h1:=Vm _ h;have h2:(s.data.toList.take k).length<=k:=List.length_take_le _ _;have h3:=OV (Nat.le_trans h2 hk);omega
theorem Rb {s:aD}{k:Nat}(hk:k<s.size)(h:yl s k)(h1:48<=(s[k].toNat:Int))(h2:(s[k].toNat:Int)<=57):yl s (k+1)/\(val (s.data.toList.take (k+1)):Int)=val (s.data.toList.take k)*10+(s[k].toNat-48):=by
  unfold yl at*;rw[IZ s k hk,IY,IW];exact⟨by rw[h,wV.2 ⟨by omega,by omega⟩];rfl,by omega⟩
theorem Vn {s:aD}{k:Nat}(hk:k<s.size)(h:(s[k].toNat:Int)<48\/57<(s[k].toNat:Int)):s.data.toList.all digit=false:=by
  rw[List.all_eq_false];refine⟨s[k],?_,?_⟩
  · have:s.data.toList[k]'(by simpa using hk)=s[k]:=rfl
    rw[<- this];exact List.getElem_mem _
  · rw[wV];omega
theorem Rc {s:aD}(h:yl s s.size):s.data.toList.all digit=true/\s.data.toList.take s.size=s.data.toList:=by
  have:s.data.toList.take s.size=s.data.toList:=List.take_of_length_le (by rw[jG];exact Nat.le_refl _);unfold yl at h;rw[this] at h;exact⟨h,this⟩
theorem Zt {s:aD}(h0:0<s.size)(h1:¬10<s.size)(h2:¬(1<s.size/\s[0]=48)):fits s.data.toList=true:=by
  rw[Al,OX s h0,jG];refine⟨h0,by omega,?_⟩;rintro⟨a,b⟩;exact h2 ⟨a,Option.some.inj b⟩
theorem Vo {s:aD}(h:s.size=0\/10<s.size\/∃h0:0<s.size,1<s.size/\s[0]=48):fits s.data.toList=false:=by
  rw[Bool.eq_false_iff,Ne,Al];rintro⟨a,b,c⟩;rw[jG] at a b c;rcases h with h|h|⟨h0,h1,h2⟩
  · omega
  · omega
  · exact c ⟨h1,by rw[OX s h0,h2]⟩
theorem yQ (s:aD)(w:ag)(h0:0<s.size)(h1:¬10<s.size)(h2:¬(1<s.size/\s[0]=48))(r:Bool)(v:Int)(hr:s.data.toList.all digit=r)(hv:(if r=true then(val s.data.toList:Int) else 0)=v):
    ax 261 #[.string s] w fun e w'=>e=.returned (.tuple #[aa v,.bool r])/\w'=w:=by
  have HR:=aj hr;have HV:=aj hv;clear hr hv;have hE:s.toList.isEmpty=false:=by
    rw[ByteArray.toList_eq,List.isEmpty_eq_false_iff];intro e;have:=jG s;rw[e] at this;simp at this;omega
  have hsz:(s.size:Int)<=10:=by omega
  have fin:∀k,k=s.size->yl s k->r=true/\v=val (s.data.toList.take k):=by
    rintro k rfl hk;obtain⟨e1,e2⟩:=Rc hk;have:=HR.out;rw[e1] at this;subst this;exact⟨rfl,by have:=HV.out;rw[if_pos rfl] at this;rw[e2];exact this.symm⟩
  have FIN:=aj fin;have bad:∀k (hk:k<s.size),((s[k].toNat:Int)<48\/57<(s[k].toNat:Int))->r=false/\v=0:=by
    intro k hk hb;have:=HR.out;rw[Vn hk hb] at this;subst this;exact⟨rfl,by have:=HV.out;rw[if_neg (by simp)] at this;exact this.symm⟩
  have BAD:=aj bad;clear fin bad HR HV;by_cases hc:(s[0].toNat:Int)=48
  all_goals
    first
    |(have h48:(!s.toList==[48])=false:=by
        have e0:s[0]=48:=J2.1 hc;have e1:s.size=1:=by by_cases h:1<s.size;exact absurd ⟨h,e0⟩ h2;omega
        have:s.toList=[48]:=by
          rw[ByteArray.toList_eq];apply List.ext_getElem
          · rw[jG,e1];rfl
          · intro i i1 i2
            simp at i2;subst i2;exact e0
        rw[this];rfl)
    |skip
    clear h2;go_enter func261,ntmps261;go_wp2
    go_loop [4,5] (fun x y=>∃k:Nat,k<=s.size/\y=aa k/\x=aa (val (s.data.toList.take k):Nat)/\yl s k) (fun _ y=>s.size-(intOf y).toNat)
    case atStart=>exact⟨0,Nat.zero_le _,rfl,rfl,rfl⟩
    case round=>
      obtain⟨k,hk,rfl,rfl,hsf⟩:=hrel;have hv1:=Ra hsf (by omega);have SF:=aj hsf;clear hsf;by_cases hlt:k<s.size
      · have hlt':(k:Int)<(s.size:Int):=by omega
        have hb:=Zr s[k];by_cases c1:(s[k].toNat:Int)<48
        · obtain⟨rfl,rfl⟩:=BAD.out k hlt (Or.inl c1)
          go_wp2
          go_ret2
          exact⟨rfl,rfl⟩
        · by_cases c2:57<(s[k].toNat:Int)
          · obtain⟨rfl,rfl⟩:=BAD.out k hlt (Or.inr c2)
            go_wp2
            go_ret2
            exact⟨rfl,rfl⟩
          · have hy:=Rb hlt SF.out (by omega) (by omega)
            have HY:=aj hy;clear hy;go_wp2
            go_round
            case rel=>exact⟨k+1,by omega,by go_num,by rw[HY.out.2],HY.out.1⟩
            case measure=>simp[intOf];omega
      · obtain⟨rfl,rfl⟩:=FIN.out k (by omega) SF.out
        go_wp2
        go_ret2
        exact⟨rfl,rfl⟩
theorem Am (s:aD)(w:ag)(h:s.size=0\/10<s.size\/∃h0:0<s.size,1<s.size/\s[0]=48):
    ax 261 #[.string s] w fun e w'=>e=.returned (.tuple #[aa 0,.bool false])/\w'=w:=by
  by_cases h0:s.size=0
  · have hE':s.toList=[]:=by
      rw[ByteArray.toList_eq];exact List.length_eq_zero_iff.1 (by rw[jG];exact h0)
    clear h;go_enter func261,ntmps261;go_wp2
    go_ret2
    exact⟨rfl,rfl⟩
  have hE:s.toList.isEmpty=false:=by
    rw[ByteArray.toList_eq,List.isEmpty_eq_false_iff];intro e;have:=jG s;rw[e] at this;simp at this;omega
  have hE':¬s.toList=[]:=by intro e;rw[e] at hE;simp at hE
  by_cases h1:10<s.size
  · have h1':(10:Int)<(s.size:Int):=by omega
    clear h;go_enter func261,ntmps261;go_wp2
    go_ret2
    exact⟨rfl,rfl⟩
  obtain⟨hp,h2,h3⟩:∃h0:0<s.size,1<s.size/\s[0]=48:=by
    rcases h with h|h|h
    · exact absurd h h0
    · exact absurd h h1
    · exact h
  have hsz:(s.size:Int)<=10:=by omega
  have hc:(s[0].toNat:Int)=48:=J2.2 h3;have h48:(!s.toList==[48])=true:=by
    have hne:¬s.toList=[48]:=by
      intro e;rw[ByteArray.toList_eq] at e;have:=jG s;rw[e] at this;simp at this;omega
    simpa using hne
  clear h h3;go_enter func261,ntmps261;go_wp2
  go_ret2
  exact⟨rfl,rfl⟩
theorem Ao (s:aD)(w:ag):
    ax 261 #[.string s] w fun e w'=>e=.returned (.tuple #[aa (if uY s.data.toList=true then(val s.data.toList:Int) else 0),.bool (uY s.data.toList)])/\w'=w:=by
  by_cases h:s.size=0\/10<s.size\/∃h0:0<s.size,1<s.size/\s[0]=48
  · have e:uY s.data.toList=false:=by unfold uY;rw[Vo h];rfl
    rw[e,if_neg (by simp)];exact Am s w h
  · have h0:0<s.size:=by
      rcases Nat.eq_zero_or_pos s.size with e|e
      · exact absurd (Or.inl e) h
      · exact e
    have e:uY s.data.toList=s.data.toList.all digit:=by unfold uY;rw[Zt h0 (fun e=>h (Or.inr (Or.inl e))) (fun e=>h (Or.inr (Or.inr ⟨h0,e⟩)))];rfl
    rw[e];exact yQ s w h0 (fun e=>h (Or.inr (Or.inl e))) (fun e=>h (Or.inr (Or.inr ⟨h0,e⟩))) _ _ rfl rfl
end Go.Proofs.YtjfiehbcamfdfaaGreatDoor

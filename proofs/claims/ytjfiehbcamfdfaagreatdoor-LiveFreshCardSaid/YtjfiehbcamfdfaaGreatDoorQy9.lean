/-
  Parts of the proof.
-/
import Derived.Lib.ItoaNum
import Derived.Test.YtjfiehbcamfdfaaGreatDoorQy0
namespace Go.Proofs.YtjfiehbcamfdfaaGreatDoor
open Go.Proofs.Tryz
section
theorem Uz {P:List UInt8->Prop}(h0:P [])(h1:∀l c,P l->P (l++[c]))(l:List UInt8):P l:=by
 have h:∀r:List UInt8,P r.reverse:=by
  intro r
  induction r with
  |nil=>simpa using h0
  |cons c r ih=>rw[List.reverse_cons];exact h1 _ _ ih
 simpa using h l.reverse
def digit (c:UInt8):Bool:=decide (48<=c.toNat) && decide (c.toNat<=57)
def val (l:List UInt8):Nat:=l.foldl (fun n c=>n*10+(c.toNat-48)) 0
def fits (l:List UInt8):Bool:=decide (1<=l.length) && decide (l.length<=10) && !(decide (1<l.length) && decide (l.head? =some 48))
def qd (l:List UInt8):Bool:=fits l && l.all digit
theorem Io (l:List UInt8)(c:UInt8):val (l++[c])=val l*10+(c.toNat-48):=by simp[val]
theorem Ip (l:List UInt8)(c:UInt8):(l++[c]).all digit=(l.all digit && digit c):=by simp
theorem wT {c:UInt8}:digit c=true↔48<=c.toNat/\c.toNat<=57:=by simp[digit]
theorem UA:∀(l:List UInt8),l.all digit=true->val l<10 ^ l.length:=by
 refine Uz ?_ ?_
 ·intro _;simp[val]
 ·intro l c ih h;rw[Ip,Bool.and_eq_true] at h;obtain⟨h1,h2⟩:=wT.1 h.2;have:=ih h.1;rw[Io,List.length_append,List.length_singleton,Nat.pow_succ];omega
theorem Oq {k:Nat}(h:k<=10):10 ^ k<=10000000000:=by
 have:10 ^ k<=10 ^ 10:=Nat.pow_le_pow_right (by decide) h;omega
theorem a2K {l:List UInt8}(h:l.all digit=true)(hl:l.length<=10):val l<10000000000:=Nat.lt_of_lt_of_le (UA l h) (Oq hl)
theorem Af {l:List UInt8}:fits l=true↔1<=l.length/\l.length<=10/\¬(1<l.length/\l.head? =some 48):=by
 simp only[fits,Bool.and_eq_true,decide_eq_true_eq,Bool.not_eq_true',Bool.and_eq_false_iff,decide_eq_false_iff_not];constructor
 ·rintro⟨⟨a,b⟩,c⟩;exact⟨a,b,fun h=>by rcases c with c|c;exact c h.1;exact c h.2⟩
 ·rintro⟨a,b,c⟩;exact⟨⟨a,b⟩,by by_cases h:1<l.length;exact Or.inr (fun e=>c ⟨h,e⟩);exact Or.inl h⟩
theorem Iq (s:ByteArray)(k:Nat)(h:k<s.size):s.data.toList.take (k+1)=s.data.toList.take k++[s[k]]:=by
 rw[List.take_succ_eq_append_getElem (by simpa using h)];rfl
end
section
open Go.RowKit
set_option maxHeartbeats 2000000
theorem jB (s:ByteArray):s.data.toList.length=s.size:=by rw[Array.length_toList];rfl
theorem Ot (s:ByteArray)(h:0<s.size):s.data.toList.head? =some s[0]:=by
  rw[List.head?_eq_getElem?,List.getElem?_eq_getElem (by simpa using h)];rfl
theorem Zf (c:UInt8):(c.toNat:Int)<=255:=by have:=c.toNat_lt;omega
theorem Ir {c:UInt8}:(c.toNat:Int)=48↔c=48:=by
  constructor
  · intro h;apply UInt8.toNat_inj.1;simp;omega
  · rintro rfl;rfl
def qH (s:ByteArray)(k:Nat):Prop:=(s.data.toList.take k).all digit=true
theorem Qs {s:ByteArray}{k:Nat}(h:qH s k)(hk:k<=10):(val (s.data.toList.take k):Int)<10000000000:=by
  have h1:=UA _ h;have h2:(s.data.toList.take k).length<=k:=List.length_take_le _ _;have h3:=Oq (Nat.le_trans h2 hk);omega
theorem Qu {s:ByteArray}{k:Nat}(hk:k<s.size)(h:qH s k)(h1:48<=(s[k].toNat:Int))(h2:(s[k].toNat:Int)<=57):qH s (k+1)/\(val (s.data.toList.take (k+1)):Int)=val (s.data.toList.take k)*10+(s[k].toNat-48):=by
  unfold qH at*;rw[Iq s k hk,Ip,Io];exact⟨by rw[h,wT.2 ⟨by omega,by omega⟩];rfl,by omega⟩
theorem UB {s:ByteArray}{k:Nat}(hk:k<s.size)(h:(s[k].toNat:Int)<48\/57<(s[k].toNat:Int)):s.data.toList.all digit=false:=by
  rw[List.all_eq_false];refine⟨s[k],?_,?_⟩
  · have:s.data.toList[k]'(by simpa using hk)=s[k]:=rfl
    rw[<- this];exact List.getElem_mem _
  · rw[wT];omega
theorem Qv {s:ByteArray}(h:qH s s.size):s.data.toList.all digit=true/\s.data.toList.take s.size=s.data.toList:=by
  have:s.data.toList.take s.size=s.data.toList:=List.take_of_length_le (by rw[jB];exact Nat.le_refl _);unfold qH at h;rw[this] at h;exact⟨h,this⟩
theorem Zg {s:ByteArray}(h0:0<s.size)(h1:¬10<s.size)(h2:¬(1<s.size/\s[0]=48)):fits s.data.toList=true:=by
  rw[Af,Ot s h0,jB];refine⟨h0,by omega,?_⟩;rintro⟨a,b⟩;exact h2 ⟨a,Option.some.inj b⟩
theorem UC {s:ByteArray}(h:s.size=0\/10<s.size\/∃h0:0<s.size,1<s.size/\s[0]=48):fits s.data.toList=false:=by
  rw[Bool.eq_false_iff,Ne,Af];rintro⟨a,b,c⟩;rw[jB] at a b c;rcases h with h|h|⟨h0,h1,h2⟩
  · omega
  · omega
  · exact c ⟨h1,by rw[Ot s h0,h2]⟩
theorem yJ (s:ByteArray)(w:World)(h0:0<s.size)(h1:¬10<s.size)(h2:¬(1<s.size/\s[0]=48))(r:Bool)(v:Int)(hr:s.data.toList.all digit=r)(hv:(if r=true then(val s.data.toList:Int) else 0)=v):
    ak 261 #[.string s] w fun e w'=>e=.returned (.tuple #[aa v,.bool r])/\w'=w:=by
  have HR:Hid (s.data.toList.all digit=r):=hr;have HV:Hid ((if r=true then(val s.data.toList:Int) else 0)=v):=hv;clear hr hv;have hE:s.toList.isEmpty=false:=by
    rw[ByteArray.toList_eq,List.isEmpty_eq_false_iff];intro e;have:=jB s;rw[e] at this;simp at this;omega
  have hE':¬s.toList=[]:=by intro e;rw[e] at hE;simp at hE
  have hsz:(s.size:Int)<=10:=by omega
  have hz:(0:Int)<(s.size:Int):=by omega
  have fin:∀k,k=s.size->qH s k->r=true/\v=val (s.data.toList.take k):=by
    rintro k rfl hk;obtain⟨e1,e2⟩:=Qv hk;have:=HR.out;rw[e1] at this;subst this;exact⟨rfl,by have:=HV.out;rw[if_pos rfl] at this;rw[e2];exact this.symm⟩
  have FIN:Hid (∀k,k=s.size->qH s k->r=true/\v=val (s.data.toList.take k)):=fin;have bad:∀k (hk:k<s.size),((s[k].toNat:Int)<48\/57<(s[k].toNat:Int))->r=false/\v=0:=by
    intro k hk hb;have:=HR.out;rw[UB hk hb] at this;subst this;exact⟨rfl,by have:=HV.out;rw[if_neg (by simp)] at this;exact this.symm⟩
  have BAD:Hid (∀k (hk:k<s.size),((s[k].toNat:Int)<48\/57<(s[k].toNat:Int))->r=false/\v=0):=bad;clear fin bad HR HV;by_cases hc:(s[0].toNat:Int)=48
  all_goals
    first
    |(have h48:(!s.toList==[48])=false:=by
        have e0:s[0]=48:=Ir.1 hc;have e1:s.size=1:=by by_cases h:1<s.size;exact absurd ⟨h,e0⟩ h2;omega
        have:s.toList=[48]:=by
          rw[ByteArray.toList_eq];apply List.ext_getElem
          · rw[jB,e1];rfl
          · intro i i1 i2
            simp at i2;subst i2;exact e0
        rw[this];rfl)
    |skip
    clear h2;go_enter func261,ntmps261;go_wp2
    go_loop [4,5] (fun x y=>∃k:Nat,k<=s.size/\y=aa k/\x=aa (val (s.data.toList.take k):Nat)/\qH s k) (fun _ y=>s.size-(intOf y).toNat)
    case atStart=>exact⟨0,Nat.zero_le _,rfl,rfl,rfl⟩
    case round=>
      obtain⟨k,hk,rfl,rfl,hsf⟩:=hrel;have hv1:=Qs hsf (by omega);have SF:Hid (qH s k):=hsf;clear hsf;by_cases hlt:k<s.size
      · have hlt':(k:Int)<(s.size:Int):=by omega
        have hb:=Zf s[k];by_cases c1:(s[k].toNat:Int)<48
        · obtain⟨rfl,rfl⟩:=BAD.out k hlt (Or.inl c1)
          go_wp2
          go_ret2
          exact⟨rfl,rfl⟩
        · by_cases c2:57<(s[k].toNat:Int)
          · obtain⟨rfl,rfl⟩:=BAD.out k hlt (Or.inr c2)
            go_wp2
            go_ret2
            exact⟨rfl,rfl⟩
          · have hy:=Qu hlt SF.out (by omega) (by omega)
            have HY:Hid (qH s (k+1)/\(val (s.data.toList.take (k+1)):Int)=val (s.data.toList.take k)*10+(s[k].toNat-48)):=hy;clear hy;go_wp2
            go_round
            case rel=>exact⟨k+1,by omega,by go_num,by rw[HY.out.2],HY.out.1⟩
            case measure=>simp[intOf];omega
      · obtain⟨rfl,rfl⟩:=FIN.out k (by omega) SF.out
        go_wp2
        go_ret2
        exact⟨rfl,rfl⟩
theorem Ag (s:ByteArray)(w:World)(h:s.size=0\/10<s.size\/∃h0:0<s.size,1<s.size/\s[0]=48):
    ak 261 #[.string s] w fun e w'=>e=.returned (.tuple #[aa 0,.bool false])/\w'=w:=by
  by_cases h0:s.size=0
  · have hE':s.toList=[]:=by
      rw[ByteArray.toList_eq];exact List.length_eq_zero_iff.1 (by rw[jB];exact h0)
    clear h;go_enter func261,ntmps261;go_wp2
    go_ret2
    exact⟨rfl,rfl⟩
  have hE:s.toList.isEmpty=false:=by
    rw[ByteArray.toList_eq,List.isEmpty_eq_false_iff];intro e;have:=jB s;rw[e] at this;simp at this;omega
  have hE':¬s.toList=[]:=by intro e;rw[e] at hE;simp at hE
  by_cases h1:10<s.size
  · have h1':(10:Int)<(s.size:Int):=by omega
    clear h;go_enter func261,ntmps261;go_wp2
    go_ret2
    exact⟨rfl,rfl⟩
  obtain⟨hp,h2,h3⟩:∃h0:0<s.size,1<s.size/\s[0]=48:=by
    rcases h with h|h|h
    · exact absurd h h0
    · exact absurd h h1
    · exact h
  have hsz:(s.size:Int)<=10:=by omega
  have hz:(0:Int)<(s.size:Int):=by omega
  have hc:(s[0].toNat:Int)=48:=Ir.2 h3;have h48:(!s.toList==[48])=true:=by
    have hne:¬s.toList=[48]:=by
      intro e;rw[ByteArray.toList_eq] at e;have:=jB s;rw[e] at this;simp at this;omega
    simpa using hne
  clear h h3;go_enter func261,ntmps261;go_wp2
  go_ret2
  exact⟨rfl,rfl⟩
theorem Ah (s:ByteArray)(w:World):
    ak 261 #[.string s] w fun e w'=>e=.returned (.tuple #[aa (if qd s.data.toList=true then(val s.data.toList:Int) else 0),.bool (qd s.data.toList)])/\w'=w:=by
  by_cases h:s.size=0\/10<s.size\/∃h0:0<s.size,1<s.size/\s[0]=48
  · have e:qd s.data.toList=false:=by unfold qd;rw[UC h];rfl
    rw[e,if_neg (by simp)];exact Ag s w h
  · have h0:0<s.size:=by
      rcases Nat.eq_zero_or_pos s.size with e|e
      · exact absurd (Or.inl e) h
      · exact e
    have e:qd s.data.toList=s.data.toList.all digit:=by unfold qd;rw[Zg h0 (fun e=>h (Or.inr (Or.inl e))) (fun e=>h (Or.inr (Or.inr ⟨h0,e⟩)))];rfl
    rw[e];exact yJ s w h0 (fun e=>h (Or.inr (Or.inl e))) (fun e=>h (Or.inr (Or.inr ⟨h0,e⟩))) _ _ rfl rfl
end
end Go.Proofs.YtjfiehbcamfdfaaGreatDoor

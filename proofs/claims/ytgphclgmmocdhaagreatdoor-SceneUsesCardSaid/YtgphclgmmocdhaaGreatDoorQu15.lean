/-
  Parts of the proof.
-/
import Derived.Test.YtgphclgmmocdhaaGreatDoorChecked
import Derived.Lib.QuietBelow
import Derived.Deep.CutRange
import Derived.Shelf.Strings.BuilderK
import Derived.Maps.AppendAt
import Derived.Test.YtgphclgmmocdhaaGreatDoorQu10
import Derived.Test.YtgphclgmmocdhaaGreatDoorQu14
namespace Go.Proofs.YtgphclgmmocdhaaGreatDoor
section
open Go.RowKit
set_option maxHeartbeats 2000000
theorem m_len (s:ByteArray):s.data.toList.length=s.size:=Array.length_toList
theorem m_get (s:ByteArray) (i:Nat) (h:i<s.size):s.data.toList[i]'(by rw [m_len];exact h)=s[i]:=by simp [ByteArray.getElem_eq_getElem_data]
theorem m_le (c d:UInt8):(c<=d)↔((c.toNat:Int)<=(d.toNat:Int)):=by rw [UInt8.le_iff_toNat_le];omega
theorem m_lt (c d:UInt8):(c<d)↔((c.toNat:Int)<(d.toNat:Int)):=by rw [UInt8.lt_iff_toNat_lt];omega
theorem m_eq (c d:UInt8):(c=d)↔((c.toNat:Int)=(d.toNat:Int)):=by rw [<- UInt8.toNat_inj];omega
theorem m_lt255 (c:UInt8):(c.toNat:Int)<=255:=by have:=c.toNat_lt;omega
theorem m_empty {s:ByteArray} (h:0<s.size):s.toList.isEmpty=false:=by
 rw [ByteArray.toList_eq,List.isEmpty_eq_false_iff]
 intro e
 have:=m_len s
 rw [e] at this;simp at this;omega
theorem letB_iff (c:UInt8):letB c=true↔97<=(c.toNat:Int)/\(c.toNat:Int)<=122:=by
 simp only [letB,Bool.and_eq_true,decide_eq_true_eq,m_le];rfl
theorem digB_iff (c:UInt8):digB c=true↔48<=(c.toNat:Int)/\(c.toNat:Int)<=57:=by
 simp only [digB,Bool.and_eq_true,decide_eq_true_eq,m_le];rfl
theorem isLetter_any (c:UInt8) (w:World):Calls Tryz.prog 68 #[.int .u8 c.toNat] w fun e w'=>e=.returned (.bool (letB c))/\w'=w:=by
 have hb:=m_lt255 c
 have hL:=letB_iff c
 generalize letB c=b at hL ⊢
 by_cases h1:97<=(c.toNat:Int)
 ·by_cases h2:(c.toNat:Int)<=122
  ·obtain rfl:b=true:=hL.2 ⟨h1,h2⟩
   clear hL
   go_enter Tryz.func68,Tryz.ntmps68
   go_wp2
   go_ret
   exact ⟨rfl,rfl⟩
  ·obtain rfl:b=false:=by cases b with
    | false=>rfl
    | true=>exact (h2 (hL.1 rfl).2).elim
   clear hL
   go_enter Tryz.func68,Tryz.ntmps68
   go_wp2
   go_ret
   exact ⟨rfl,rfl⟩
 ·obtain rfl:b=false:=by cases b with
   | false=>rfl
   | true=>exact (h1 (hL.1 rfl).1).elim
  clear hL
  go_enter Tryz.func68,Tryz.ntmps68
  go_wp2
  go_ret
  exact ⟨rfl,rfl⟩
theorem isDigit_any (c:UInt8) (w:World):Calls Tryz.prog 69 #[.int .u8 c.toNat] w fun e w'=>e=.returned (.bool (digB c))/\w'=w:=by
 have hb:=m_lt255 c
 have hL:=digB_iff c
 generalize digB c=b at hL ⊢
 by_cases h1:48<=(c.toNat:Int)
 ·by_cases h2:(c.toNat:Int)<=57
  ·obtain rfl:b=true:=hL.2 ⟨h1,h2⟩
   clear hL
   go_enter Tryz.func69,Tryz.ntmps69
   go_wp2
   go_ret
   exact ⟨rfl,rfl⟩
  ·obtain rfl:b=false:=by cases b with
    | false=>rfl
    | true=>exact (h2 (hL.1 rfl).2).elim
   clear hL
   go_enter Tryz.func69,Tryz.ntmps69
   go_wp2
   go_ret
   exact ⟨rfl,rfl⟩
 ·obtain rfl:b=false:=by cases b with
   | false=>rfl
   | true=>exact (h1 (hL.1 rfl).1).elim
  clear hL
  go_enter Tryz.func69,Tryz.ntmps69
  go_wp2
  go_ret
  exact ⟨rfl,rfl⟩
theorem isNm_get (s:ByteArray):isNm s.data.toList=true↔∃ h0:0<s.size,s.size<=12/\letB s[0]=true/\∀ i (h:i<s.size),1<=i->nmB s[i]=true:=by
 have hl:=m_len s
 have hg:=fun i h=>m_get s i h
 constructor
 ·intro h
  cases hs:s.data.toList with
  | nil=>rw [hs] at h;simp [isNm] at h
  | cons c r=>
   rw [hs] at h hl
   simp only [isNm,Bool.and_eq_true,decide_eq_true_eq,List.all_eq_true] at h
   have h0:0<s.size:=by rw [<- hl];simp
   refine ⟨h0,by rw [<- hl];exact h.1.1,?_,fun i hi h1=>?_⟩
   ·rw [<- hg 0 h0];simp only [hs,List.getElem_cons_zero];exact h.1.2
   ·obtain ⟨j,rfl⟩:∃ j,i=j+1:=⟨i - 1,by omega⟩
    rw [<- hg _ hi]
    simp only [hs,List.getElem_cons_succ]
    exact h.2 _ (List.getElem_mem _)
 ·rintro ⟨h0,h1,h2,h3⟩
  cases hs:s.data.toList with
  | nil=>rw [hs] at hl;simp at hl;omega
  | cons c r=>
   rw [hs] at hl
   simp only [isNm,Bool.and_eq_true,decide_eq_true_eq,List.all_eq_true]
   refine ⟨⟨by rw [hl];exact h1,?_⟩,fun d hd=>?_⟩
   ·have:=hg 0 h0;simp only [hs,List.getElem_cons_zero] at this;rw [this];exact h2
   ·obtain ⟨i,hi,rfl⟩:=List.mem_iff_getElem.1 hd
    have hlt:i+1<s.size:=by rw [<- hl];simp;exact hi
    have:=hg (i+1) hlt
    simp only [hs,List.getElem_cons_succ] at this
    rw [this]
    exact h3 _ hlt (by omega)
theorem IsName_any (s:ByteArray) (hs:s.size<=9223372036854775807) (w:World):Calls Tryz.prog 37 #[.string s] w fun e w'=>e=.returned (.bool (isNm s.data.toList))/\w'=w:=by
 have hN:=isNm_get s
 generalize isNm s.data.toList=b at hN ⊢
 have NO:Hid ((¬ ∃ h0:0<s.size,s.size<=12/\letB s[0]=true/\∀ i (h:i<s.size),1<=i->nmB s[i]=true)->b=false):=fun h=>by
  cases b with
  | false=>rfl
  | true=>exact (h (hN.1 rfl)).elim
 have YES:Hid ((∃ h0:0<s.size,s.size<=12/\letB s[0]=true/\∀ i (h:i<s.size),1<=i->nmB s[i]=true)->b=true):=hN.2
 clear hN
 have hmax:(s.size:Int)<=9223372036854775807:=by omega
 by_cases h0:0<s.size
 ·have hE:=m_empty h0
  have hE':¬ s.toList=[]:=by intro e;rw [e] at hE;simp at hE
  have hz:(0:Int)<(s.size:Int):=by omega
  by_cases h1:s.size<=12
  ·have h1':(s.size:Int)<=12:=by omega
   cases h2:letB s[0] with
   | false=>
    obtain rfl:=NO.out (fun ⟨_,_,h,_⟩=>by rw [h2] at h;cases h)
    clear NO YES
    go_enter Tryz.func37,Tryz.ntmps37
    go_wp2_with (go_at_call 68;refine (isLetter_any s[0] _).mono ?_;rw [h2];rintro e w1 ⟨rfl,rfl⟩)
    go_ret
    exact ⟨rfl,rfl⟩
   | true=>
    go_enter Tryz.func37,Tryz.ntmps37
    go_wp2_with (go_at_call 68;refine (isLetter_any s[0] _).mono ?_;rw [h2];rintro e w1 ⟨rfl,rfl⟩)
    go_loop [3] (fun y=>∃ k:Nat,k<=s.size/\1<=k/\y=.int .i64 k/\∀ i (h:i<s.size),1<=i->i<k->nmB s[i]=true) (fun y=>s.size - (intOf y).toNat)
    case atStart=>exact ⟨1,by omega,by omega,rfl,fun i _ a b=>by omega⟩
    case round=>
     obtain ⟨k,hk,hk1,rfl,hall⟩:=hrel
     have HA:Hid (∀ i (h:i<s.size),1<=i->i<k->nmB s[i]=true):=hall
     clear hall
     by_cases hlt:k<s.size
     ·have hlt':(k:Int)<(s.size:Int):=by omega
      have hb:=m_lt255 s[k]
      cases hl:letB s[k] with
      | true=>
       go_wp2_with (go_at_call 68;refine (isLetter_any s[k] _).mono ?_;rw [hl];rintro e w2 ⟨rfl,rfl⟩)
       go_round
       case rel=>exact ⟨k+1,by omega,by omega,by go_num,fun i h a b=>by
        by_cases e:i<k
        ·exact HA.out i h a e
        ·obtain rfl:i=k:=by omega
         simp [nmB,hl]⟩
       case measure=>simp [intOf];omega
      | false=>
       cases hd:digB s[k] with
       | true=>
        go_wp2_with (first | (go_at_call 68;refine (isLetter_any s[k] _).mono ?_;rw [hl];rintro e w2 ⟨rfl,rfl⟩) | (go_at_call 69;refine (isDigit_any s[k] _).mono ?_;rw [hd];rintro e w3 ⟨rfl,rfl⟩))
        go_round
        case rel=>exact ⟨k+1,by omega,by omega,by go_num,fun i h a b=>by
         by_cases e:i<k
         ·exact HA.out i h a e
         ·obtain rfl:i=k:=by omega
          simp [nmB,hd]⟩
        case measure=>simp [intOf];omega
       | false=>
        by_cases h45:(s[k].toNat:Int)=45
        ·have L45:∀ w,Calls Tryz.prog 68 #[.int .u8 45] w fun e w'=>e=.returned (.bool false)/\w'=w:=fun w=>by have:=isLetter_any 45 w;rwa [show letB 45=false from by decide,show (((45:UInt8).toNat:Nat):Int)=45 from by decide] at this
         have D45:∀ w,Calls Tryz.prog 69 #[.int .u8 45] w fun e w'=>e=.returned (.bool false)/\w'=w:=fun w=>by have:=isDigit_any 45 w;rwa [show digB 45=false from by decide,show (((45:UInt8).toNat:Nat):Int)=45 from by decide] at this
         have e45:Hid (nmB s[k]=true):=(by have:s[k]=45:=(m_eq _ _).2 (h45.trans (by decide));simp [nmB,this]:nmB s[k]=true)
         go_wp2_with (first | (go_at_call 68;refine (L45 _).mono ?_;rintro e w2 ⟨rfl,rfl⟩) | (go_at_call 69;refine (D45 _).mono ?_;rintro e w3 ⟨rfl,rfl⟩))
         go_round
         case rel=>exact ⟨k+1,by omega,by omega,by go_num,fun i h a b=>by
          by_cases e:i<k
          ·exact HA.out i h a e
          ·obtain rfl:i=k:=by omega
           exact e45.out⟩
         case measure=>simp [intOf];omega
        ·have hn:nmB s[k]=false:=by
          have:¬ s[k]=45:=fun e=>h45 (((m_eq _ _).1 e).trans (by decide))
          simp [nmB,hl,hd,this]
         obtain rfl:=NO.out (fun ⟨_,_,_,h⟩=>by have:=h k hlt hk1;rw [hn] at this;cases this)
         clear NO YES HA hn
         go_wp2_with (first | (go_at_call 68;refine (isLetter_any s[k] _).mono ?_;rw [hl];rintro e w2 ⟨rfl,rfl⟩) | (go_at_call 69;refine (isDigit_any s[k] _).mono ?_;rw [hd];rintro e w3 ⟨rfl,rfl⟩))
         go_ret
         exact ⟨rfl,rfl⟩
     ·obtain rfl:=YES.out ⟨h0,h1,h2,fun i h a=>HA.out i h a (by omega)⟩
      clear NO YES HA
      have hge:¬ (k:Int)<(s.size:Int):=by omega
      go_wp2_with fail
      go_ret
      exact ⟨rfl,rfl⟩
  ·obtain rfl:=NO.out (fun ⟨_,h,_⟩=>h1 h)
   clear NO YES
   have h1':12<(s.size:Int):=by omega
   go_enter Tryz.func37,Tryz.ntmps37
   go_wp2_with fail
   go_ret
   exact ⟨rfl,rfl⟩
 ·obtain rfl:=NO.out (fun ⟨h,_⟩=>h0 h)
  clear NO YES
  have hE:s.toList.isEmpty=true:=by
   rw [ByteArray.toList_eq,List.isEmpty_iff]
   exact List.length_eq_zero_iff.1 (by rw [m_len];omega)
  have hE':s.toList=[]:=List.isEmpty_iff.1 hE
  go_enter Tryz.func37,Tryz.ntmps37
  go_wp2_with fail
  go_ret
  exact ⟨rfl,rfl⟩
end
section
open Go.RowKit
set_option maxHeartbeats 2000000
theorem isVal_get (s:ByteArray):isVal s.data.toList=true↔s.size<=200/\∀ i (h:i<s.size),32<=(s[i].toNat:Int)/\(s[i].toNat:Int)<=126:=by
 have hl:=m_len s
 simp only [isVal,Bool.and_eq_true,decide_eq_true_eq,List.all_eq_true,hl,Bool.not_eq_true',decide_eq_false_iff_not]
 refine and_congr_right fun _=>⟨fun h i hi=>?_,fun h c hc=>?_⟩
 ·have:=h s[i] (by rw [<- m_get s i hi];exact List.getElem_mem _)
  rw [m_lt,m_lt] at this
  have e1:(((32:UInt8).toNat:Nat):Int)=32:=by decide
  have e2:(((126:UInt8).toNat:Nat):Int)=126:=by decide
  rw [e1,e2] at this
  omega
 ·obtain ⟨i,hi,rfl⟩:=List.mem_iff_getElem.1 hc
  rw [hl] at hi
  have:=h i hi
  rw [m_get s i hi,m_lt,m_lt]
  have e1:(((32:UInt8).toNat:Nat):Int)=32:=by decide
  have e2:(((126:UInt8).toNat:Nat):Int)=126:=by decide
  rw [e1,e2]
  omega
theorem IsValue_any (s:ByteArray) (hs:s.size<=9223372036854775807) (w:World):Calls Tryz.prog 38 #[.string s] w fun e w'=>e=.returned (.bool (isVal s.data.toList))/\w'=w:=by
 have hN:=isVal_get s
 generalize isVal s.data.toList=b at hN ⊢
 have NO:Hid ((¬ (s.size<=200/\∀ i (h:i<s.size),32<=(s[i].toNat:Int)/\(s[i].toNat:Int)<=126))->b=false):=fun h=>by
  cases b with
  | false=>rfl
  | true=>exact (h (hN.1 rfl)).elim
 have YES:Hid ((s.size<=200/\∀ i (h:i<s.size),32<=(s[i].toNat:Int)/\(s[i].toNat:Int)<=126)->b=true):=hN.2
 clear hN
 have hmax:(s.size:Int)<=9223372036854775807:=by omega
 by_cases h1:s.size<=200
 ·have h1':(s.size:Int)<=200:=by omega
  go_enter Tryz.func38,Tryz.ntmps38
  go_wp2_with fail
  go_loop [3] (fun y=>∃ k:Nat,k<=s.size/\y=.int .i64 k/\∀ i (h:i<s.size),i<k->32<=(s[i].toNat:Int)/\(s[i].toNat:Int)<=126) (fun y=>s.size - (intOf y).toNat)
  case atStart=>exact ⟨0,by omega,rfl,fun i _ b=>by omega⟩
  case round=>
   obtain ⟨k,hk,rfl,hall⟩:=hrel
   have HA:Hid (∀ i (h:i<s.size),i<k->32<=(s[i].toNat:Int)/\(s[i].toNat:Int)<=126):=hall
   clear hall
   by_cases hlt:k<s.size
   ·have hlt':(k:Int)<(s.size:Int):=by omega
    have hb:=m_lt255 s[k]
    by_cases c1:(s[k].toNat:Int)<32
    ·obtain rfl:=NO.out (fun h=>by have:=(h.2 k hlt).1;omega)
     clear NO YES HA
     go_wp2_with fail
     go_ret
     exact ⟨rfl,rfl⟩
    ·by_cases c2:126<(s[k].toNat:Int)
     ·obtain rfl:=NO.out (fun h=>by have:=(h.2 k hlt).2;omega)
      clear NO YES HA
      go_wp2_with fail
      go_ret
      exact ⟨rfl,rfl⟩
     ·have HK:Hid (32<=(s[k].toNat:Int)/\(s[k].toNat:Int)<=126):=⟨by omega,by omega⟩
      go_wp2_with fail
      go_round
      case rel=>exact ⟨k+1,by omega,by go_num,fun i h b=>by
       by_cases e:i<k
       ·exact HA.out i h e
       ·obtain rfl:i=k:=by omega
        exact HK.out⟩
      case measure=>simp [intOf];omega
   ·obtain rfl:=YES.out ⟨h1,fun i h=>HA.out i h (by omega)⟩
    clear NO YES HA
    have hge:¬ (k:Int)<(s.size:Int):=by omega
    go_wp2_with fail
    go_ret
    exact ⟨rfl,rfl⟩
 ·obtain rfl:=NO.out (fun h=>h1 h.1)
  clear NO YES
  have h1':200<(s.size:Int):=by omega
  go_enter Tryz.func38,Tryz.ntmps38
  go_wp2_with fail
  go_ret
  exact ⟨rfl,rfl⟩
end
section
open Go.RowKit
def strV (s:Bs):Value:=.string ⟨s.toArray⟩
theorem strV_of (s:ByteArray):Value.string s=strV s.data.toList:=by cases s;rfl
theorem strV_size (s:Bs):(⟨s.toArray⟩:ByteArray).size=s.length:=by simp [ByteArray.size]
def AtsAt (w:World) (o:Option Addr) (ats:List (Bs × Bs)):Prop:=∀ i x,ats[i]? = some x->∃ b off,o=some ⟨b,off,none⟩/\w.cell? ⟨b,off+i * 2,none⟩=some (strV x.1)/\w.cell? ⟨b,off+i * 2+1,none⟩=some (strV x.2)/\x.1.length<=maxLen/\x.2.length<=maxLen
def AtsIn (w:World) (v:Value) (ats:List (Bs × Bs)):Prop:=∃ o cap,v=.slice o ats.length cap/\ats.length<=cap/\cap<=maxLen/\(o=none->cap=0)/\AtsAt w o ats
mutual
def NdC (w:World) (c0 c1 c2:Value):Nd->Prop
 | .mk nm ats ks=>c0=strV nm/\nm.length<=maxLen/\AtsIn w c1 ats/\∃ o cap,c2=.slice o ks.length cap/\ks.length<=cap/\cap<=maxLen/\(o=none->cap=0)/\KdsAt w o 0 ks
def KdsAt (w:World) (o:Option Addr) (i:Nat):List Nd->Prop
 | []=>True
 | k :: l=>(∃ b off c0 c1 c2,o=some ⟨b,off,none⟩/\w.cell? ⟨b,off+i * 3,none⟩=some c0/\w.cell? ⟨b,off+i * 3+1,none⟩=some c1/\w.cell? ⟨b,off+i * 3+2,none⟩=some c2/\NdC w c0 c1 c2 k)/\KdsAt w o (i+1) l
end
theorem cell_lt3 {w:World} {a:Addr} {v:Value} (h:w.cell? a=some v):a.block<w.heap.size:=by
 rcases Nat.lt_or_ge a.block w.heap.size with h' | h'
 ·exact h'
 ·simp [World.cell?,Array.getElem?_eq_none h'] at h
theorem AtsAt.below {w w':World} {o:Option Addr} {ats:List (Bs × Bs)} (h:AtsAt w o ats) (hb:Below w.heap.size w w'):AtsAt w' o ats:=fun i x hx=>by
 obtain ⟨b,off,h1,h2,h3,h4⟩:=h i x hx
 exact ⟨b,off,h1,(hb.cell (cell_lt3 h2)).trans h2,(hb.cell (cell_lt3 h3)).trans h3,h4⟩
theorem AtsIn.below {w w':World} {v:Value} {ats:List (Bs × Bs)} (h:AtsIn w v ats) (hb:Below w.heap.size w w'):AtsIn w' v ats:=by
 obtain ⟨o,cap,h1,h2,h3,h5,h4⟩:=h
 exact ⟨o,cap,h1,h2,h3,h5,h4.below hb⟩
mutual
theorem NdC.below {w w':World} (hb:Below w.heap.size w w'):∀ {c0 c1 c2:Value} (n:Nd),NdC w c0 c1 c2 n->NdC w' c0 c1 c2 n
 | _,_,_,.mk _ _ ks,h=>by
  unfold NdC at h ⊢
  obtain ⟨h1,h2,h3,o,cap,h4,h5,h6,h8,h7⟩:=h
  exact ⟨h1,h2,h3.below hb,o,cap,h4,h5,h6,h8,KdsAt.below hb ks h7⟩
theorem KdsAt.below {w w':World} (hb:Below w.heap.size w w'):∀ {o:Option Addr} {i:Nat} (l:List Nd),KdsAt w o i l->KdsAt w' o i l
 | _,_,[],_=>by unfold KdsAt;trivial
 | _,_,k :: l,h=>by
  unfold KdsAt at h ⊢
  obtain ⟨⟨b,off,c0,c1,c2,h1,h2,h3,h4,h5⟩,h6⟩:=h
  exact ⟨⟨b,off,c0,c1,c2,h1,(hb.cell (cell_lt3 h2)).trans h2,(hb.cell (cell_lt3 h3)).trans h3,(hb.cell (cell_lt3 h4)).trans h4,NdC.below hb k h5⟩,KdsAt.below hb l h6⟩
end
theorem KdsAt.get {w:World} {o:Option Addr}:∀ {l:List Nd} {i j:Nat} {k:Nd},KdsAt w o i l->l[j]? = some k->∃ b off c0 c1 c2,o=some ⟨b,off,none⟩/\w.cell? ⟨b,off+(i+j) * 3,none⟩=some c0/\w.cell? ⟨b,off+(i+j) * 3+1,none⟩=some c1/\w.cell? ⟨b,off+(i+j) * 3+2,none⟩=some c2/\NdC w c0 c1 c2 k
 | [],_,_,_,_,hk=>by simp at hk
 | k :: l,i,j,k',h,hk=>by
  unfold KdsAt at h
  cases j with
  | zero=>simp at hk;subst hk;exact h.1
  | succ j=>
   have:=KdsAt.get (i:=i+1) (j:=j) h.2 (by simpa using hk)
   rw [show i+1+j=i+(j+1) from by omega] at this
   exact this
theorem kdsAt_of {w:World} {o:Option Addr}:∀ {l:List Nd} {i:Nat},(∀ j k,l[j]? = some k->∃ b off c0 c1 c2,o=some ⟨b,off,none⟩/\w.cell? ⟨b,off+(i+j) * 3,none⟩=some c0/\w.cell? ⟨b,off+(i+j) * 3+1,none⟩=some c1/\w.cell? ⟨b,off+(i+j) * 3+2,none⟩=some c2/\NdC w c0 c1 c2 k)->KdsAt w o i l
 | [],_,_=>by unfold KdsAt;trivial
 | k :: l,i,h=>by
  unfold KdsAt
  refine ⟨h 0 k rfl,kdsAt_of fun j k' hk=>?_⟩
  have:=h (j+1) k' (by simpa using hk)
  rw [show i+(j+1)=i+1+j from by omega] at this
  exact this
theorem list_of {α:Type} {P:Nat->α->Prop}:∀ (n:Nat),(∀ i,i<n->∃ x,P i x)->∃ l:List α,l.length=n/\∀ i x,l[i]? = some x->P i x
 | 0,_=>⟨[],rfl,fun i x h=>by simp at h⟩
 | n+1,h=>by
  obtain ⟨l,hl,hP⟩:=list_of n (fun i hi=>h i (by omega))
  obtain ⟨x,hx⟩:=h n (by omega)
  refine ⟨l++[x],by simp [hl],fun i y hy=>?_⟩
  rcases Nat.lt_or_ge i n with hi | hi
  ·rw [List.getElem?_append_left (by omega)] at hy;exact hP i y hy
  ·rw [List.getElem?_append_right (by omega)] at hy
   have:i - l.length=0:=by
    rcases Nat.eq_zero_or_pos (i - l.length) with e | e
    ·exact e
    ·rw [List.getElem?_eq_none (by simp;omega)] at hy;cases hy
   rw [this] at hy
   simp at hy
   subst hy
   obtain rfl:i=n:=by omega
   exact hx
theorem cells_two {w:World} {base:Nat} {a:Addr} {cs:List Value} (h:w.cells? base a 2=some cs):∃ b off c0 c1,a=⟨b,off,none⟩/\cs=[c0,c1]/\w.cell? ⟨b,off,none⟩=some c0/\w.cell? ⟨b,off+1,none⟩=some c1:=by
 unfold World.cells? at h
 split at h
 ·simp only [List.range_succ,List.range_zero,List.nil_append,List.cons_append,List.mapM_cons,List.mapM_nil] at h
  cases h0:w.cell? (a.add 0) with
  | none=>simp [h0] at h
  | some c0=>
   cases h1:w.cell? (a.add 1) with
   | none=>simp [h0,h1] at h
   | some c1=>
    simp [h0,h1] at h
    obtain ⟨b,off,sp⟩:=a
    cases sp with
    | some s=>
     simp [Addr.add,World.cell?] at h0
     split at h0 <;> cases h0
    | none=>exact ⟨b,off,c0,c1,rfl,h.symm,by simpa [Addr.add] using h0,by simpa [Addr.add] using h1⟩
 ·cases h
theorem cells_three {w:World} {base:Nat} {a:Addr} {cs:List Value} (h:w.cells? base a 3=some cs):∃ b off c0 c1 c2,a=⟨b,off,none⟩/\cs=[c0,c1,c2]/\w.cell? ⟨b,off,none⟩=some c0/\w.cell? ⟨b,off+1,none⟩=some c1/\w.cell? ⟨b,off+2,none⟩=some c2:=by
 unfold World.cells? at h
 split at h
 ·simp only [List.range_succ,List.range_zero,List.nil_append,List.cons_append,List.mapM_cons,List.mapM_nil] at h
  cases h0:w.cell? (a.add 0) with
  | none=>simp [h0] at h
  | some c0=>
   cases h1:w.cell? (a.add 1) with
   | none=>simp [h0,h1] at h
   | some c1=>
    cases h2:w.cell? (a.add 2) with
    | none=>simp [h0,h1,h2] at h
    | some c2=>
     simp [h0,h1,h2] at h
     obtain ⟨b,off,sp⟩:=a
     cases sp with
     | some s=>
      simp [Addr.add,World.cell?] at h0
      split at h0 <;> cases h0
     | none=>exact ⟨b,off,c0,c1,c2,rfl,h.symm,by simpa [Addr.add] using h0,by simpa [Addr.add] using h1,by simpa [Addr.add] using h2⟩
 ·cases h
end
section
open Go.RowKit
theorem cellsAttr:Tryz.prog.cellsOf 49=2:=by kernel_rfl
theorem cellsNode:Tryz.prog.cellsOf 25=3:=by kernel_rfl
theorem cellsStr:Tryz.prog.cellsOf 9=1:=by kernel_rfl
theorem cellsAttrs:Tryz.prog.cellsOf 22=1:=by kernel_rfl
theorem cellsKids:Tryz.prog.cellsOf 23=1:=by kernel_rfl
section
variable {H:Type} {enc:TypeId × Value->H} {w:World} {base:Nat} {spare:Nat->Bool} {held:Bool}
theorem trod_str {fuel:Nat} {c:Value} {x:DataW H × List MemPlace} (h:DataW.trod enc Tryz.prog w base spare held fuel 9 [c]=some x):∃ s:Bs,c=strV s/\s.length<=maxLen:=by
  obtain ⟨s',h1,_,hs⟩:=DataW.trod_string Tryz.underlying9 h
  simp at h1
  subst h1
  exact ⟨s'.data.toList,strV_of s',by rw [m_len];exact hs⟩
theorem open_ats {fuel:Nat} {cs:List Value} {x:DataW H × List MemPlace} (h:DataW.trod enc Tryz.prog w base spare held fuel 22 cs=some x):∃ v ats,cs=[v]/\AtsIn w v ats:=by
  rcases DataW.trod_slice Tryz.underlying22 h with ⟨rfl,_⟩ | ⟨a,len,cap,elems,rest,n,_,rfl,_,_,hl,hc,hlen,hel,_⟩
  · exact ⟨_,[],rfl,none,0,rfl,Nat.le_refl _,by decide,fun _=>rfl,fun i x hx=>by simp at hx⟩
  · simp only [cellsAttr] at hel
    obtain ⟨l,hll,hP⟩:=list_of (α:=Bs × Bs) (P:=fun i x=>∃ b off,some a=some ⟨b,off,none⟩/\w.cell? ⟨b,off+i * 2,none⟩=some (strV x.1)/\w.cell? ⟨b,off+i * 2+1,none⟩=some (strV x.2)/\x.1.length<=maxLen/\x.2.length<=maxLen) len (fun i hi=>by
      have hE:=hel i hi
      obtain ⟨y,hy⟩:∃ y,elems[i]? = some y:=⟨elems[i],List.getElem?_eq_getElem (by omega)⟩
      rw [hy] at hE
      simp only [Option.bind_eq_some_iff] at hE
      obtain ⟨c,hc1,hc2⟩:=hE
      obtain ⟨b,off,c0,c1,ha,rfl,h0,h1⟩:=cells_two hc1
      obtain ⟨y0,y1,m,_,_,f0,f1⟩:=Go.ChangeShapes.trod_struct2 Tryz.underlying49 hc2
      simp only [cellsStr] at f0 f1
      obtain ⟨s0,rfl,l0⟩:=trod_str f0
      obtain ⟨s1,rfl,l1⟩:=trod_str f1
      obtain ⟨ab,ao,asp⟩:=a
      have:asp=none:=by
        cases i with
        | zero=>simp [Addr.add] at ha;exact ha.2.2
        | succ i => 
          have h00:=hel 0 (by omega)
          obtain ⟨y0,hy0⟩:∃ y,elems[0]? = some y:=⟨elems[0],List.getElem?_eq_getElem (by omega)⟩
          rw [hy0] at h00
          simp only [Option.bind_eq_some_iff] at h00
          obtain ⟨_,hd1,_⟩:=h00
          obtain ⟨_,_,_,_,hb,_⟩:=cells_two hd1
          simp [Addr.add] at hb
          exact hb.2.2
      subst this
      have e:b=ab/\off=ao+i * 2:=by
        unfold Addr.add at ha
        split at ha <;> simp at ha <;> exact ⟨ha.1.symm,by omega⟩
      obtain ⟨rfl,rfl⟩:=e
      exact ⟨(s0,s1),_,ao,rfl,h0,h1,l0,l1⟩)
    exact ⟨_,l,rfl,some a,cap,by rw [hll],by omega,hc,(fun e=>nomatch e),hP⟩
theorem trod_three {t:TypeId} {f0 f1 f2:Field} {fuel:Nat} {cs:List Value} {x:DataW H × List MemPlace} {P:Program} (ht:P.underlying t=some (.struct #[f0,f1,f2])) (h:DataW.trod enc P w base spare held fuel t cs=some x) :
    ∃ y0 y1 y2 n,fuel=n+1/\cs.length=P.cellsOf t/\DataW.trod enc P w base spare held n f0.type ((cs.drop f0.offset).take (P.cellsOf f0.type))=some y0/\
      DataW.trod enc P w base spare held n f1.type ((cs.drop f1.offset).take (P.cellsOf f1.type))=some y1/\DataW.trod enc P w base spare held n f2.type ((cs.drop f2.offset).take (P.cellsOf f2.type))=some y2:=by
  obtain ⟨xs,n,hn,rfl,hl,hlen,hf⟩:=DataW.trod_struct ht h
  match xs,hlen with
  | [y0,y1,y2],_=>exact ⟨y0,y1,y2,n,hn,hl,by simpa using hf 0 f0 rfl,by simpa using hf 1 f1 rfl,by simpa using hf 2 f2 rfl⟩
theorem open_nd:∀ (fuel:Nat) {cs:List Value} {x:DataW H × List MemPlace},DataW.trod enc Tryz.prog w base spare held fuel 25 cs=some x->∃ c0 c1 c2 n,cs=[c0,c1,c2]/\NdC w c0 c1 c2 n
  | fuel,cs,x,h=>by
    obtain ⟨y0,y1,y2,m,rfl,hcl,f0,f1,f2⟩:=trod_three Tryz.underlying25 h
    rw [cellsNode] at hcl
    obtain ⟨c0,c1,c2,rfl⟩:∃ c0 c1 c2,cs=[c0,c1,c2]:=by
      rcases cs with _ | ⟨c0,_ | ⟨c1,_ | ⟨c2,_ | ⟨c3,cs⟩⟩⟩⟩
      all_goals first | exact ⟨_,_,_,rfl⟩ | simp at hcl
    simp only [cellsStr,cellsAttrs,cellsKids] at f0 f1 f2
    obtain ⟨s0,rfl,l0⟩:=trod_str f0
    obtain ⟨v1,ats,e1,ha⟩:=open_ats f1
    simp at e1
    subst e1
    suffices hk:∃ ks:List Nd,∃ o cap,c2=.slice o ks.length cap/\ks.length<=cap/\cap<=maxLen/\(o=none->cap=0)/\KdsAt w o 0 ks by
      obtain ⟨ks,hk⟩:=hk
      exact ⟨_,_,_,.mk s0 ats ks,rfl,by unfold NdC;exact ⟨rfl,l0,ha,hk⟩⟩
    rcases DataW.trod_slice Tryz.underlying23 f2 with ⟨e2,_⟩ | ⟨a,len,cap,elems,rest,q,hq,e2,_,_,hl,hc,hlen,hel,_⟩
    · simp at e2
      subst e2
      exact ⟨[],none,0,rfl,Nat.le_refl _,by decide,fun _=>rfl,by unfold KdsAt;trivial⟩
    · simp at e2
      subst e2
      simp only [cellsNode] at hel
      have sp:0<len->a.spot=none:=fun h0=>by
        have h00:=hel 0 h0
        obtain ⟨y0,hy0⟩:∃ y,elems[0]? = some y:=⟨elems[0],List.getElem?_eq_getElem (by omega)⟩
        rw [hy0] at h00
        simp only [Option.bind_eq_some_iff] at h00
        obtain ⟨_,hd1,_⟩:=h00
        obtain ⟨_,_,_,_,_,hb,_⟩:=cells_three hd1
        simp [Addr.add] at hb
        rw [hb]
      obtain ⟨l,hll,hP⟩:=list_of (α:=Nd) (P:=fun i k=>∃ b off c0 c1 c2,some a=some ⟨b,off,none⟩/\w.cell? ⟨b,off+i * 3,none⟩=some c0/\w.cell? ⟨b,off+i * 3+1,none⟩=some c1/\w.cell? ⟨b,off+i * 3+2,none⟩=some c2/\NdC w c0 c1 c2 k) len (fun i hi=>by
        have hE:=hel i hi
        obtain ⟨y,hy⟩:∃ y,elems[i]? = some y:=⟨elems[i],List.getElem?_eq_getElem (by omega)⟩
        rw [hy] at hE
        simp only [Option.bind_eq_some_iff] at hE
        obtain ⟨c,hc1,hc2⟩:=hE
        obtain ⟨b,off,d0,d1,d2,hb,rfl,h0,h1,h2⟩:=cells_three hc1
        obtain ⟨e0,e1,e2,k,he,hk⟩:=open_nd q hc2
        simp at he
        obtain ⟨rfl,rfl,rfl⟩:=he
        have hs:=sp (by omega)
        obtain ⟨ab,ao,asp⟩:=a
        simp at hs
        subst hs
        have e:b=ab/\off=ao+i * 3:=by
          unfold Addr.add at hb
          split at hb <;> simp at hb <;> exact ⟨hb.1.symm,by omega⟩
        obtain ⟨rfl,rfl⟩:=e
        exact ⟨k,_,ao,d0,d1,d2,rfl,h0,h1,h2,hk⟩)
      exact ⟨l,some a,cap,by rw [hll],by omega,hc,(fun e=>nomatch e),kdsAt_of (fun j k hk=>by rw [show 0+j=j from by omega];exact hP j k hk)⟩
  termination_by fuel=>fuel
  decreasing_by omega
end
end
section
open Go.RowKit
set_option maxHeartbeats 2000000
theorem maxLen_eq:maxLen=9223372036854775807:=by decide
def atV (x:Bs × Bs):Value:=.agg #[strV x.1,strV x.2]
theorem mbel {W A w:World} (h:Below W.heap.size W A) (hb:Below A.heap.size A w):Below W.heap.size W w:=h.trans (hb.mono h.size)
theorem mcell_al {W:World} {a:Addr} {v:Value} (o:Obj) (h:W.cell? a=some v):(W.alloc o).cell? a=some v:=(((Below.refl W.heap.size W).alloc Nat.le.refl o).cell (cell_lt3 h)).trans h
theorem sameName_any (x:Bs × Bs) (nm:Bs) (B:Nat) (W:World) (hB:W.cell? ⟨B,0,none⟩=some (strV nm)) :
  Calls Tryz.prog 157 #[atV x,.pointer (some ⟨B,0,none⟩)] W fun e w'=>e=.returned (.bool (x.1==nm))/\Below W.heap.size W w':=by
 have hB':=fun o=>mcell_al o hB
 unfold atV strV at *
 go_enter Tryz.func157,Tryz.ntmps157
 go_wp2
 go_ret
 exact ⟨rfl,(Below.refl _ W).alloc Nat.le.refl _⟩
def fI (nm:Bs):Nat->List (Bs × Bs)->Int
 | _,[] => -1
 | k,x :: r=>if (x.1==nm)=true then k else fI nm (k+1) r
theorem fI_any (nm:Bs):∀ (l:List (Bs × Bs)) (k:Nat),decide (0<=fI nm k l)=l.any (fun x=>x.1==nm)
 | [],_=>rfl
 | x :: r,k=>by
  unfold fI
  cases hx:(x.1==nm) with
  | true=>simp [hx]
  | false=>simp only [Bool.false_eq_true,if_false,List.any_cons,hx,Bool.false_or];exact fI_any nm r (k+1)
theorem drop_at {α:Type} {l:List α} {k:Nat} (h:k<l.length):∃ x,l[k]? = some x/\l.drop k=x :: l.drop (k+1):=⟨l[k],List.getElem?_eq_getElem h,(List.getElem_cons_drop h).symm⟩
theorem IndexFunc_any (ats:List (Bs × Bs)) (nm:Bs) (B:Nat) (v:Value) (W:World) (h:AtsIn W v ats) (hB:W.cell? ⟨B,0,none⟩=some (strV nm)) :
  Calls Tryz.prog 70 #[v,.func (.func 157) #[] #[.pointer (some ⟨B,0,none⟩)]] W fun e w'=>e=.returned (.int .i64 (fI nm 0 ats))/\Below W.heap.size W w':=by
 obtain ⟨o,cap,rfl,h1,h2,h3,h4⟩:=h
 have hlen:(ats.length:Int)<=9223372036854775807:=by rw [maxLen_eq] at h2;omega
 by_cases h0:ats.length=0
 ·obtain rfl:ats=[]:=List.length_eq_zero_iff.1 h0
  clear h4
  go_enter Tryz.func70,Tryz.ntmps70
  go_wp2_with fail
  go_loopw [8] (fun y wr=>y=.int .i64 0/\wr=W) (fun _ _=>0)
  case atStart=>exact ⟨rfl,rfl⟩
  case round=>
   obtain ⟨rfl,rfl⟩:=hrel
   go_wp2_with fail
   go_ret
   exact ⟨rfl,Below.refl _ _⟩
 ·obtain ⟨x0,hx0, -⟩:=drop_at (l:=ats) (k:=0) (by omega)
  obtain ⟨b,off,rfl, -⟩:=h4 0 x0 hx0
  have H4:Hid (AtsAt W (some ⟨b,off,none⟩) ats):=h4
  clear h4 hx0 h3 x0
  have hcap:(ats.length:Int)<=(cap:Int):=by omega
  go_enter Tryz.func70,Tryz.ntmps70
  go_wp2_with fail
  go_loopw [8] (fun y wr=>∃ k:Nat,k<=ats.length/\y=.int .i64 k/\fI nm 0 ats=fI nm k (ats.drop k)/\Below W.heap.size W wr) (fun y _=>ats.length - (intOf y).toNat)
  case atStart=>exact ⟨0,Nat.zero_le _,rfl,rfl,Below.refl _ _⟩
  case round=>
   obtain ⟨k,hk,rfl,hf,hb⟩:=hrel
   by_cases hlt:k<ats.length
   ·have hlt':(k:Int)<(ats.length:Int):=by omega
    obtain ⟨x,hx,hd⟩:=drop_at hlt
    obtain ⟨b',off',e,c0,c1, -⟩:=H4.out k x hx
    simp only [Option.some.injEq,Addr.mk.injEq,and_true] at e
    obtain ⟨rfl,rfl⟩:=e
    have k0:=(hb.cell (cell_lt3 c0)).trans c0
    have k1:=(hb.cell (cell_lt3 c1)).trans c1
    have hB1:=(hb.cell (cell_lt3 hB)).trans hB
    have HS:=sameName_any x nm B wr hB1
    rw [hd] at hf
    clear c0 c1 hx hd
    unfold strV at k0 k1
    cases hs:(x.1==nm) with
    | true=>
     rw [hs] at HS
     have hf':Hid (fI nm 0 ats=k):=(by rw [hf];unfold fI;rw [if_pos hs]:fI nm 0 ats=k)
     clear hf hs
     go_wp2_with (go_at_call 157;refine HS.mono ?_;rintro e w1 ⟨rfl,hb1⟩)
     go_ret
     exact ⟨by rw [hf'.out];rfl,mbel hb hb1⟩
    | false=>
     rw [hs] at HS
     have hf0:fI nm k (x :: ats.drop (k+1))=fI nm (k+1) (ats.drop (k+1)):=by rw [fI,if_neg (by rw [hs];simp)]
     have hf':Hid (fI nm 0 ats=fI nm (k+1) (ats.drop (k+1))):=hf.trans hf0
     clear hf0
     clear hf hs
     go_wp2_with (go_at_call 157;refine HS.mono ?_;rintro e w1 ⟨rfl,hb1⟩)
     go_roundw
     case rel=>exact ⟨k+1,by omega,by go_num,hf'.out,mbel hb hb1⟩
     case measure=>simp [intOf];omega
   ·obtain rfl:k=ats.length:=by omega
    have hf':Hid (fI nm 0 ats = -1):=(by rw [hf,List.drop_length];rfl:fI nm 0 ats = -1)
    clear hf
    go_wp2_with fail
    go_ret
    exact ⟨by rw [hf'.out];rfl,hb⟩
theorem ContainsFunc_any (ats:List (Bs × Bs)) (nm:Bs) (B:Nat) (v:Value) (W:World) (h:AtsIn W v ats) (hB:W.cell? ⟨B,0,none⟩=some (strV nm)) :
  Calls Tryz.prog 156 #[v,.func (.func 157) #[] #[.pointer (some ⟨B,0,none⟩)]] W fun e w'=>e=.returned (.bool (ats.any (fun x=>x.1==nm)))/\Below W.heap.size W w':=by
 have HI:=IndexFunc_any ats nm B v W h hB
 rw [<- fI_any nm ats 0]
 generalize fI nm 0 ats=z at HI ⊢
 go_enter Tryz.func156,Tryz.ntmps156
 go_wp2_with (go_at_call 70;refine HI.mono ?_;rintro e w1 ⟨rfl,hb1⟩)
 go_ret
 exact ⟨rfl,hb1⟩
end
section
open Go.RowKit
set_option maxHeartbeats 2000000
structure CE (E:Nat->Addr) (w:World):Prop where
 c4:w.cell? ⟨1,0,none⟩=some (.iface 409 (.pointer (some (E 4))))
 c6:w.cell? ⟨9,0,none⟩=some (.iface 409 (.pointer (some (E 6))))
 c7:w.cell? ⟨3,0,none⟩=some (.iface 409 (.pointer (some (E 7))))
 c8:w.cell? ⟨8,0,none⟩=some (.iface 409 (.pointer (some (E 8))))
 c10:w.cell? ⟨2,0,none⟩=some (.iface 409 (.pointer (some (E 10))))
theorem CE.below {E:Nat->Addr} {w w':World} (h:CE E w) (hb:Below w.heap.size w w'):CE E w' where
 c4:=(hb.cell (cell_lt3 h.c4)).trans h.c4
 c6:=(hb.cell (cell_lt3 h.c6)).trans h.c6
 c7:=(hb.cell (cell_lt3 h.c7)).trans h.c7
 c8:=(hb.cell (cell_lt3 h.c8)).trans h.c8
 c10:=(hb.cell (cell_lt3 h.c10)).trans h.c10
def errV (E:Nat->Addr) (c:Nat):Value:=if c=0 then .nilIface else .iface 409 (.pointer (some (E c)))
theorem errV_zero (E:Nat->Addr):errV E 0=.nilIface:=rfl
theorem errV_pos (E:Nat->Addr) {c:Nat} (h:c≠0):errV E c=.iface 409 (.pointer (some (E c))):=by unfold errV;rw [if_neg h]
def ckA (ahead:List (Bs × Bs)) (a:Bs × Bs):Nat:=if isNm a.1=true then (if ahead.any (fun x=>x.1==a.1)=true then 6 else if isVal a.2=true then 0 else 10) else 4
theorem mal (W:World) (o:Obj):Below W.heap.size W (W.alloc o):=(Below.refl W.heap.size W).alloc Nat.le.refl o
theorem mnew (W:World) (cs:Array Value) (t:TypeId) (i:Nat) (v:Value) (h:cs[i]? = some v):(W.alloc (.cells cs t)).cell? ⟨W.heap.size,i,none⟩=some v:=by
 have e:(W.alloc (.cells cs t)).heap[W.heap.size]? = some (.cells cs t):=by show (W.heap.push (.cells cs t))[W.heap.size]? = _;simp
 unfold World.cell?
 simp only [e]
 simpa using h
theorem checkAttr_any (E:Nat->Addr) (a:Bs × Bs) (ats:List (Bs × Bs)) (v:Value) (W:World) (hE:CE E W) (h:AtsIn W v ats) (l1:a.1.length<=maxLen) (l2:a.2.length<=maxLen) :
  Calls Tryz.prog 111 #[atV a,v] W fun e w'=>e=.returned (errV E (ckA ats a))/\Below W.heap.size W w':=by
 have b0:=mal W (.cells #[.string ⟨a.1.toArray⟩,.string ⟨a.2.toArray⟩] 49)
 have n0:=mnew W #[.string ⟨a.1.toArray⟩,.string ⟨a.2.toArray⟩] 49 0 _ rfl
 have n1:=mnew W #[.string ⟨a.1.toArray⟩,.string ⟨a.2.toArray⟩] 49 1 _ rfl
 have HN:=IsName_any ⟨a.1.toArray⟩ (by rw [strV_size,<- maxLen_eq];exact l1) (W.alloc (.cells #[.string ⟨a.1.toArray⟩,.string ⟨a.2.toArray⟩] 49))
 have HC:=ContainsFunc_any ats a.1 W.heap.size v _ (h.below b0) n0
 have HV:=fun V=>IsValue_any ⟨a.2.toArray⟩ (by rw [strV_size,<- maxLen_eq];exact l2) V
 have hE1:=hE.below b0
 obtain ⟨o,cap,rfl,_,_,_,_⟩:=h
 have e4:=hE1.c4
 unfold ckA
 unfold atV strV
 cases hn:isNm a.1 with
 | false=>
  rw [show isNm (⟨a.1.toArray⟩:ByteArray).data.toList=false from hn] at HN
  rw [if_neg (by simp),errV_pos E (by decide)]
  clear HC HV n1
  go_enter Tryz.func111,Tryz.ntmps111
  go_wp2_with (go_at_call 37;refine HN.mono ?_;rintro e w1 ⟨rfl,rfl⟩)
  go_ret
  exact ⟨rfl,b0⟩
 | true=>
  rw [show isNm (⟨a.1.toArray⟩:ByteArray).data.toList=true from hn] at HN
  rw [if_pos rfl]
  cases ha:ats.any (fun x=>x.1==a.1) with
  | true=>
   rw [ha] at HC
   rw [if_pos rfl,errV_pos E (by decide)]
   clear HV n1 e4
   go_enter Tryz.func111,Tryz.ntmps111
   go_wp2_with (first | (go_at_call 37;refine HN.mono ?_;rintro e w1 ⟨rfl,rfl⟩) | (go_at_call 156;refine HC.mono ?_;rintro e w2 ⟨rfl,hb2⟩;have e6:=(hE1.below hb2).c6))
   go_ret
   exact ⟨rfl,mbel b0 hb2⟩
  | false=>
   rw [ha] at HC
   rw [if_neg (by simp)]
   cases hv:isVal a.2 with
   | true=>
    rw [show isVal (⟨a.2.toArray⟩:ByteArray).data.toList=true from hv] at HV
    rw [if_pos rfl,errV_zero]
    clear e4
    go_enter Tryz.func111,Tryz.ntmps111
    go_wp2_with (first | (go_at_call 37;refine HN.mono ?_;rintro e w1 ⟨rfl,rfl⟩) | (go_at_call 156;refine HC.mono ?_;rintro e w2 ⟨rfl,hb2⟩;have k1:=(hb2.cell (cell_lt3 n1)).trans n1) | (go_at_call 38;refine (HV _).mono ?_;rintro e w3 ⟨rfl,rfl⟩))
    go_ret
    exact ⟨rfl,mbel b0 hb2⟩
   | false=>
    rw [show isVal (⟨a.2.toArray⟩:ByteArray).data.toList=false from hv] at HV
    rw [if_neg (by simp),errV_pos E (by decide)]
    clear e4
    go_enter Tryz.func111,Tryz.ntmps111
    go_wp2_with (first | (go_at_call 37;refine HN.mono ?_;rintro e w1 ⟨rfl,rfl⟩) | (go_at_call 156;refine HC.mono ?_;rintro e w2 ⟨rfl,hb2⟩;have k1:=(hb2.cell (cell_lt3 n1)).trans n1;have e10:=(hE1.below hb2).c10) | (go_at_call 38;refine (HV _).mono ?_;rintro e w3 ⟨rfl,rfl⟩))
    go_ret
    exact ⟨rfl,mbel b0 hb2⟩
end
section
open Go.RowKit
set_option maxHeartbeats 4000000
set_option maxRecDepth 20000
def ckL:List (Bs × Bs)->List (Bs × Bs)->Nat
 | _,[]=>0
 | pre,a :: r=>if ckA pre a=0 then ckL (pre++[a]) r else ckA pre a
def ck1 (nm:Bs) (ats:List (Bs × Bs)) (deep ahead:Nat):Nat:=if 10<deep then 8 else if 100<=ahead then 7 else if isNm nm=true then (if 12<ats.length then 7 else ckL [] ats) else 4
theorem ckL_step {ats:List (Bs × Bs)} {k:Nat} {x:Bs × Bs} (hx:ats[k]? = some x) (hd:ats.drop k=x :: ats.drop (k+1)) (h:ckA (ats.take k) x=0):ckL (ats.take k) (ats.drop k)=ckL (ats.take (k+1)) (ats.drop (k+1)):=by
 rw [hd,ckL,if_pos h,List.take_add_one,hx];rfl
theorem AtsIn.take {w:World} {b off cap:Nat} {ats:List (Bs × Bs)} (k:Nat) (hk:k<=ats.length) (hc:ats.length<=cap) (hm:cap<=maxLen) (h:AtsAt w (some ⟨b,off,none⟩) ats):AtsIn w (.slice (some ⟨b,off,none⟩) k cap) (ats.take k):=
 ⟨some ⟨b,off,none⟩,cap,by rw [List.length_take,Nat.min_eq_left hk],by rw [List.length_take];omega,hm,(fun e=>nomatch e),fun i x hx=>h i x (by rw [List.getElem?_take] at hx;split at hx;exact hx;cases hx)⟩
theorem attrs_any (E:Nat->Addr) (nm:Bs) (ats:List (Bs × Bs)) (nk capk cap b off:Nat) (ok:Option Addr) (deep ahead:Nat) (W:World) (hE:CE E W) (h4:AtsAt W (some ⟨b,off,none⟩) ats) (hc:ats.length<=cap) (hm:cap<=maxLen) (hl:nm.length<=maxLen)
  (hd:deep<=10) (ha:ahead<100) (hn:isNm nm=true) (h12:ats.length<=12) :
  Calls Tryz.prog 67 #[.agg #[strV nm,.slice (some ⟨b,off,none⟩) ats.length cap,.slice ok nk capk],.int .i64 deep,.int .i64 ahead] W fun e w'=>e=.returned (errV E (ckL [] ats))/\Below W.heap.size W w':=by
 have b0:=mal W (.cells #[.string ⟨nm.toArray⟩,.slice (some ⟨b,off,none⟩) ats.length cap,.slice ok nk capk] 25)
 have n0:=mnew W #[.string ⟨nm.toArray⟩,.slice (some ⟨b,off,none⟩) ats.length cap,.slice ok nk capk] 25 0 (.string ⟨nm.toArray⟩) rfl
 have n1:=mnew W #[.string ⟨nm.toArray⟩,.slice (some ⟨b,off,none⟩) ats.length cap,.slice ok nk capk] 25 1 (.slice (some ⟨b,off,none⟩) ats.length cap) rfl
 have HN:=IsName_any ⟨nm.toArray⟩ (by rw [strV_size,<- maxLen_eq];exact hl) (W.alloc (.cells #[.string ⟨nm.toArray⟩,.slice (some ⟨b,off,none⟩) ats.length cap,.slice ok nk capk] 25))
 rw [show isNm (⟨nm.toArray⟩:ByteArray).data.toList=true from hn] at HN
 have hd':(deep:Int)<=10:=by omega
 have ha':(ahead:Int)<100:=by omega
 have h12':(ats.length:Int)<=12:=by omega
 have hm':(cap:Int)<=9223372036854775807:=by rw [maxLen_eq] at hm;omega
 have H4:Hid (AtsAt W (some ⟨b,off,none⟩) ats):=h4
 have HE:Hid (CE E W):=hE
 clear h4 hE hn
 unfold strV
 go_enter Tryz.func67,Tryz.ntmps67
 go_wp2_with (go_at_call 37;refine HN.mono ?_;rintro e w1 ⟨rfl,rfl⟩)
 clear HN
 obtain ⟨W1,hW1⟩:∃ V,W.alloc (.cells #[.string ⟨nm.toArray⟩,.slice (some ⟨b,off,none⟩) ats.length cap,.slice ok nk capk] 25)=V:=⟨_,rfl⟩
 rw [hW1] at b0 n0 n1 ⊢
 clear hW1
 go_loopw [33] (fun y wr=>∃ k:Nat,k<=ats.length/\y=.int .i64 k/\ckL [] ats=ckL (ats.take k) (ats.drop k)/\Below W1.heap.size W1 wr) (fun y _=>ats.length - (intOf y).toNat)
 case atStart=>exact ⟨0,Nat.zero_le _,rfl,rfl,Below.refl _ _⟩
 case round=>
  obtain ⟨k,hk,rfl,hf,hb⟩:=hrel
  have HF:Hid (ckL [] ats=ckL (ats.take k) (ats.drop k)):=hf
  clear hf
  by_cases hlt:k<ats.length
  ·have hlt':(k:Int)<(ats.length:Int):=by omega
   have hkc:(k:Int)<=(cap:Int):=by omega
   obtain ⟨x,hx,hdr⟩:=drop_at hlt
   obtain ⟨b',off',e,c0,c1,l1,l2⟩:=H4.out k x hx
   simp only [Option.some.injEq,Addr.mk.injEq,and_true] at e
   obtain ⟨rfl,rfl⟩:=e
   have bw:=mbel b0 hb
   have k0:=(bw.cell (cell_lt3 c0)).trans c0
   have k1:=(bw.cell (cell_lt3 c1)).trans c1
   have m1:=(hb.cell (cell_lt3 n1)).trans n1
   clear c0 c1
   unfold strV at k0 k1
   have HX:Hid (ats[k]? = some x/\ats.drop k=x :: ats.drop (k+1)):=⟨hx,hdr⟩
   clear hx hdr
   have q0:=mnew wr #[.string ⟨x.1.toArray⟩,.string ⟨x.2.toArray⟩] 49 0 (.string ⟨x.1.toArray⟩) rfl
   have q1:=mnew wr #[.string ⟨x.1.toArray⟩,.string ⟨x.2.toArray⟩] 49 1 (.string ⟨x.2.toArray⟩) rfl
   have q2:=mcell_al (.cells #[.string ⟨x.1.toArray⟩,.string ⟨x.2.toArray⟩] 49) m1
   have bU:=mal wr (.cells #[.string ⟨x.1.toArray⟩,.string ⟨x.2.toArray⟩] 49)
   go_upto_region 12 with fail
   obtain ⟨U,hU⟩:∃ V,wr.alloc (.cells #[.string ⟨x.1.toArray⟩,.string ⟨x.2.toArray⟩] 49)=V:=⟨_,rfl⟩
   rw [hU] at q0 q1 q2 bU ⊢
   clear hU k0 k1 m1
   have hl1:=l1
   have hl2:=l2
   by_cases hz:ckA (ats.take k) x=0
   ·have qA:∀ d os,Calls Tryz.prog 111 #[.agg #[.string ⟨x.1.toArray⟩,.string ⟨x.2.toArray⟩],.slice (some ⟨b,off,none⟩) k cap] (Go.Sort.grow (redrawn U d) os) fun e w''=>e=.returned .nilIface/\∃ p:Regrown,w''=Go.Sort.grow (redrawn U p.d) p.os:=fun d os=>by
     have:=checkAttr_any E x (ats.take k) (.slice (some ⟨b,off,none⟩) k cap) (Go.Sort.grow (redrawn U d) os) (HE.out.below (mbel (mbel bw bU) (below_regrown U d os))) (AtsIn.take k hk hc hm (H4.out.below (mbel (mbel bw bU) (below_regrown U d os)))) hl1 hl2
     rw [hz,errV_zero] at this
     exact Calls.regrown_of this
    have HZ:Hid (ckL [] ats=ckL (ats.take (k+1)) (ats.drop (k+1))):=HF.out.trans (ckL_step HX.out.1 HX.out.2 hz)
    clear hz l1 l2 hl1 hl2
    have r0:=cell_regrown q0
    have r1:=cell_regrown q1
    have r2:=cell_regrown q2
    refine wp_region_quiet_below (by kernel_rfl) (by kernel_rfl) ?_
    repeat (quiet_step (first | (go_at_call 111;exact qA _ _)))
    refine wpQuiet_nil ?_
    intro _ hw'
    obtain ⟨pq,hw''⟩:=hw'
    subst hw''
    clear r0 r1 r2 qA q0 q1 q2
    have hbV:=mbel (mbel hb bU) (below_regrown U pq.d pq.os)
    generalize Go.Sort.grow (redrawn U pq.d) pq.os=V at hbV ⊢
    go_wp2_with fail
    go_roundw
    case rel=>exact ⟨k+1,by omega,by go_num,HZ.out,hbV⟩
    case measure=>simp [intOf];omega
   ·have qA:∀ d os,Calls Tryz.prog 111 #[.agg #[.string ⟨x.1.toArray⟩,.string ⟨x.2.toArray⟩],.slice (some ⟨b,off,none⟩) k cap] (Go.Sort.grow (redrawn U d) os) fun e w''=>e=.returned (.iface 409 (.pointer (some (E (ckA (ats.take k) x)))))/\∃ p:Regrown,w''=Go.Sort.grow (redrawn U p.d) p.os:=fun d os=>by
     have:=checkAttr_any E x (ats.take k) (.slice (some ⟨b,off,none⟩) k cap) (Go.Sort.grow (redrawn U d) os) (HE.out.below (mbel (mbel bw bU) (below_regrown U d os))) (AtsIn.take k hk hc hm (H4.out.below (mbel (mbel bw bU) (below_regrown U d os)))) hl1 hl2
     rw [errV_pos E hz] at this
     exact Calls.regrown_of this
    have HZ:Hid (ckL [] ats=ckA (ats.take k) x):=(by rw [HF.out,HX.out.2,ckL,if_neg hz]:ckL [] ats=ckA (ats.take k) x)
    have HP:Hid (ckA (ats.take k) x≠0):=hz
    clear hz l1 l2 hl1 hl2
    generalize ckA (ats.take k) x=z at qA HZ HP
    have r0:=cell_regrown q0
    have r1:=cell_regrown q1
    have r2:=cell_regrown q2
    refine wp_region_quiet_below (by kernel_rfl) (by kernel_rfl) ?_
    repeat (quiet_step (first | (go_at_call 111;exact qA _ _)))
    refine wpQuiet_nil ?_
    intro _ hw'
    obtain ⟨pq,hw''⟩:=hw'
    subst hw''
    clear r0 r1 r2 qA q0 q1 q2
    have hbV:=mbel (mbel bw bU) (below_regrown U pq.d pq.os)
    generalize Go.Sort.grow (redrawn U pq.d) pq.os=V at hbV ⊢
    go_wp2_with fail
    go_ret
    exact ⟨by rw [HZ.out,errV_pos E HP.out];rfl,hbV⟩
  ·obtain rfl:k=ats.length:=by omega
   have hz:Hid (ckL [] ats=0):=(by rw [HF.out,List.drop_length];rfl:ckL [] ats=0)
   go_wp2_with fail
   go_ret
   exact ⟨by rw [hz.out];rfl,mbel b0 hb⟩
end
section
open Go.RowKit
set_option maxHeartbeats 4000000
set_option maxRecDepth 20000
theorem checkOne_any (E:Nat->Addr) (nm:Bs) (ats:List (Bs × Bs)) (ks:List Nd) (c1 c2:Value) (deep ahead:Nat) (W:World) (hE:CE E W) (h:NdC W (strV nm) c1 c2 (.mk nm ats ks)) (hdp:deep<=1000) (hah:ahead<=1000) :
  Calls Tryz.prog 67 #[.agg #[strV nm,c1,c2],.int .i64 deep,.int .i64 ahead] W fun e w'=>e=.returned (errV E (ck1 nm ats deep ahead))/\Below W.heap.size W w':=by
 unfold NdC at h
 obtain ⟨-,hl,⟨o,cap,rfl,hc,hm,h0,h4⟩,ok,capk,rfl, -⟩:=h
 generalize ks.length=nk
 have b0:=mal W (.cells #[.string ⟨nm.toArray⟩,.slice o ats.length cap,.slice ok nk capk] 25)
 have n0:=mnew W #[.string ⟨nm.toArray⟩,.slice o ats.length cap,.slice ok nk capk] 25 0 (.string ⟨nm.toArray⟩) rfl
 have n1:=mnew W #[.string ⟨nm.toArray⟩,.slice o ats.length cap,.slice ok nk capk] 25 1 (.slice o ats.length cap) rfl
 have HN:=IsName_any ⟨nm.toArray⟩ (by rw [strV_size,<- maxLen_eq];exact hl) (W.alloc (.cells #[.string ⟨nm.toArray⟩,.slice o ats.length cap,.slice ok nk capk] 25))
 have hE1:=hE.below b0
 have hdp':(deep:Int)<=1000:=by omega
 have hah':(ahead:Int)<=1000:=by omega
 have hm':(ats.length:Int)<=9223372036854775807:=by rw [maxLen_eq] at hm;omega
 unfold ck1
 by_cases g1:10<deep
 ·rw [if_pos g1,errV_pos E (by decide)]
  have g1':10<(deep:Int):=by omega
  have e8:=hE1.c8
  clear HN n1 n0
  unfold strV
  go_enter Tryz.func67,Tryz.ntmps67
  go_wp2_with fail
  go_ret
  exact ⟨rfl,b0⟩
 ·rw [if_neg g1]
  have g1':(deep:Int)<=10:=by omega
  by_cases g2:100<=ahead
  ·rw [if_pos g2,errV_pos E (by decide)]
   have g2':100<=(ahead:Int):=by omega
   have e7:=hE1.c7
   clear HN n1 n0
   unfold strV
   go_enter Tryz.func67,Tryz.ntmps67
   go_wp2_with fail
   go_ret
   exact ⟨rfl,b0⟩
  ·rw [if_neg g2]
   have g2':(ahead:Int)<100:=by omega
   cases hn:isNm nm with
   | false=>
    rw [show isNm (⟨nm.toArray⟩:ByteArray).data.toList=false from hn] at HN
    rw [if_neg (by simp),errV_pos E (by decide)]
    have e4:=hE1.c4
    clear n1
    unfold strV
    go_enter Tryz.func67,Tryz.ntmps67
    go_wp2_with (go_at_call 37;refine HN.mono ?_;rintro e w1 ⟨rfl,rfl⟩)
    go_ret
    exact ⟨rfl,b0⟩
   | true=>
    rw [show isNm (⟨nm.toArray⟩:ByteArray).data.toList=true from hn] at HN
    rw [if_pos rfl]
    by_cases g3:12<ats.length
    ·rw [if_pos g3,errV_pos E (by decide)]
     have g3':12<(ats.length:Int):=by omega
     have e7:=hE1.c7
     unfold strV
     go_enter Tryz.func67,Tryz.ntmps67
     go_wp2_with (go_at_call 37;refine HN.mono ?_;rintro e w1 ⟨rfl,rfl⟩)
     go_ret
     exact ⟨rfl,b0⟩
    ·rw [if_neg g3]
     by_cases hz:ats.length=0
     ·obtain rfl:ats=[]:=List.length_eq_zero_iff.1 hz
      rw [show ckL [] []=0 from rfl,errV_zero]
      clear h4 hm'
      unfold strV
      go_enter Tryz.func67,Tryz.ntmps67
      go_wp2_with (go_at_call 37;refine HN.mono ?_;rintro e w1 ⟨rfl,rfl⟩)
      go_loopw [33] (fun y wr=>y=.int .i64 0/\Below W.heap.size W wr) (fun _ _=>0)
      case atStart=>exact ⟨rfl,b0⟩
      case round=>
       obtain ⟨rfl,hb⟩:=hrel
       go_wp2_with fail
       go_ret
       exact ⟨rfl,hb⟩
     ·obtain ⟨x0,hx0, -⟩:=drop_at (l:=ats) (k:=0) (by omega)
      obtain ⟨b,off,rfl, -⟩:=h4 0 x0 hx0
      exact attrs_any E nm ats nk capk cap b off ok deep ahead W hE h4 hc hm hl (by omega) (by omega) hn (by omega)
end
section
open Go.RowKit
set_option maxHeartbeats 8000000
set_option maxRecDepth 20000
structure Keep (b:Nat) (W w:World):Prop where
 os:w.os=W.os
 tape:w.tape=W.tape
 output:w.output=W.output
 size:W.heap.size<=w.heap.size
 block:∀ k,k<W.heap.size->k≠b->w.heap[k]? = W.heap[k]?
theorem Keep.trans {b:Nat} {A B C:World} (h:Keep b A B) (k:Keep b B C):Keep b A C:=
 ⟨k.os.trans h.os,k.tape.trans h.tape,k.output.trans h.output,Nat.le_trans h.size k.size,fun i hi hb=>(k.block i (Nat.lt_of_lt_of_le hi h.size) hb).trans (h.block i hi hb)⟩
theorem Keep.of_below {b:Nat} {A B:World} (h:Below A.heap.size A B):Keep b A B:=⟨h.os,h.tape,h.output,h.size,fun i hi _=>h.block i hi⟩
theorem Keep.below {b n:Nat} {A B:World} (h:Keep b A B) (hb:n<=b) (hn:n<=A.heap.size):Below n A B:=⟨h.os,h.tape,h.output,h.size,fun i hi=>h.block i (by omega) (by omega)⟩
theorem Keep.setCell {b:Nat} {A B:World} (h:Keep b A B) (v:Value):Keep b A (B.setCell ⟨b,0,none⟩ v):=by
 have hs:=(Below.refl b B).setCell (p:=⟨b,0,none⟩) Nat.le.refl v
 refine ⟨hs.os.trans h.os,hs.tape.trans h.tape,hs.output.trans h.output,Nat.le_trans h.size hs.size,fun i hi hb=>?_⟩
 exact (Below.heap_setCell _ _ _ i hb).trans (h.block i hi hb)
theorem Keep.cell {b:Nat} {A B:World} (h:Keep b A B) {p:Addr} {v:Value} (hp:A.cell? p=some v) (hb:p.block≠b):B.cell? p=some v:=by
 rw [<- hp]
 unfold World.cell?
 rw [h.block p.block (cell_lt3 hp) hb]
theorem mfroz {B:Nat} {w w':World} {p:Addr} (hb:Below B w w') (hp:p.block<B):w'.frozen? p=w.frozen? p:=by
 unfold World.frozen?
 rw [hb.block _ hp]
theorem mset {w:World} {b:Nat} {u v:Value} (h:w.cell? ⟨b,0,none⟩=some u):(w.setCell ⟨b,0,none⟩ v).cell? ⟨b,0,none⟩=some v:=by
 exact World.cell?_setCell_same w _ v h
theorem mset_froz {w:World} {b:Nat} {v:Value} (h:w.frozen? ⟨b,0,none⟩=false):(w.setCell ⟨b,0,none⟩ v).frozen? ⟨b,0,none⟩=false:=by
 have:=World.frozen?_setCell w ⟨b,0,none⟩ ⟨b,0,none⟩ v
 rw [this];exact h
theorem Nd.ind {P:Nd->Prop} (h:∀ nm ats ks,(∀ k ∈ ks,P k)->P (.mk nm ats ks)):∀ n,P n:=by
 suffices H:(∀ n,P n) by exact H
 intro n
 exact Nd.rec (motive_1:=P) (motive_2:=fun l=>∀ k ∈ l,P k) (fun nm ats ks ih=>h nm ats ks ih) (by simp) (fun k l hk hl=>by
  intro j hj
  rcases List.mem_cons.1 hj with rfl | hj
  ·exact hk
  ·exact hl j hj) n
mutual
def ckN:Nd->Nat->Nat->Nat × Nat
 | .mk nm ats ks,deep,ahead=>if ck1 nm ats deep ahead=0 then ckK ks (deep+1) (ahead+1) else (ck1 nm ats deep ahead,ahead)
def ckK:List Nd->Nat->Nat->Nat × Nat
 | [],_,ahead=>(0,ahead)
 | k :: l,deep,ahead=>if (ckN k deep ahead).1=0 then ckK l deep (ckN k deep ahead).2 else ckN k deep ahead
end
theorem ck1_zero {nm:Bs} {ats:List (Bs × Bs)} {deep ahead:Nat} (h:ck1 nm ats deep ahead=0):deep<=10/\ahead<100:=by
 unfold ck1 at h
 split at h
 ·cases h
 ·split at h
  ·cases h
  ·omega
mutual
theorem ckN_le:∀ (n:Nd) (deep ahead:Nat),(ckN n deep ahead).1=0->(ckN n deep ahead).2<=100
 | .mk nm ats ks,deep,ahead,h=>by
  unfold ckN at h ⊢
  split at h
  ·rename_i h1
   rw [if_pos h1]
   exact ckK_le ks _ _ (ck1_zero h1).2 h
  ·rename_i h1
   exact (h1 h).elim
theorem ckK_le:∀ (l:List Nd) (deep ahead:Nat),ahead<=100->(ckK l deep ahead).1=0->(ckK l deep ahead).2<=100
 | [],deep,ahead,ha,_=>by unfold ckK;exact ha
 | k :: l,deep,ahead,ha,h=>by
  unfold ckK at h ⊢
  split at h
  ·rename_i h1
   rw [if_pos h1]
   exact ckK_le l _ _ (ckN_le k _ _ h1) h
  ·rename_i h1
   exact (h1 h).elim
end
theorem ckN_zero {nm:Bs} {ats:List (Bs × Bs)} {ks:List Nd} {deep ahead:Nat} (h:ck1 nm ats deep ahead=0):ckN (.mk nm ats ks) deep ahead=ckK ks (deep+1) (ahead+1):=by rw [ckN,if_pos h]
theorem ckK_zero {k:Nd} {l:List Nd} {deep ahead:Nat} (h:(ckN k deep ahead).1=0):ckK (k :: l) deep ahead=ckK l deep (ckN k deep ahead).2:=by rw [ckK,if_pos h]
theorem ckK_pos {k:Nd} {l:List Nd} {deep ahead:Nat} (h:(ckN k deep ahead).1≠0):ckK (k :: l) deep ahead=ckN k deep ahead:=by rw [ckK,if_neg h]
def Flt (E:Nat->Addr) (B:Nat) (r:Nat × Nat) (e:Ending) (w:World):Prop:=∃ pb,B<=pb/\e=.returned (.iface 143 (.pointer (some ⟨pb,0,none⟩)))/\w.cell? ⟨pb,0,none⟩=some (.int .i64 r.2)/\w.cell? ⟨pb,1,none⟩=some (.iface 409 (.pointer (some (E r.1))))
def Chk (E:Nat->Addr) (W0:World) (PA PW:Nat) (n:Nd):Prop:=∀ (c0 c1 c2:Value) (deep ahead:Nat) (W:World),NdC W0 c0 c1 c2 n->deep<=11->ahead<=100->Below W0.heap.size W0 W->
 W.cell? ⟨PA,0,none⟩=some (.int .i64 ahead)->W.frozen? ⟨PA,0,none⟩=false->W.cell? ⟨PW,0,none⟩=some (.func (.func 66) #[] #[.pointer (some ⟨PA,0,none⟩),.pointer (some ⟨PW,0,none⟩)])->
 Calls Tryz.prog 66 #[.agg #[c0,c1,c2],.int .i64 deep,.pointer (some ⟨PA,0,none⟩),.pointer (some ⟨PW,0,none⟩)] W fun e w'=>Keep PA W w'/\
  (((ckN n deep ahead).1=0/\e=.returned .nilIface/\w'.cell? ⟨PA,0,none⟩=some (.int .i64 (ckN n deep ahead).2)/\w'.frozen? ⟨PA,0,none⟩=false)\/((ckN n deep ahead).1≠0/\Flt E W.heap.size (ckN n deep ahead) e w'))
theorem chk_any (E:Nat->Addr) (W0:World) (PA PW:Nat) (hE:CE E W0) (hA:W0.heap.size<=PA) (hne:PW≠PA):∀ n,Chk E W0 PA PW n:=by
 refine Nd.ind fun nm ats ks ih=>?_
 intro c0 c1 c2 deep ahead W hn hd ha hb cA fA cP
 have hn':=hn
 unfold NdC at hn'
 obtain ⟨rfl,hl,⟨o1,cap1,rfl,_,_,_,_⟩,ok,capk,rfl,hkc,hkm,hk0,hks⟩:=hn'
 have HO:=checkOne_any E nm ats ks (.slice o1 ats.length cap1) (.slice ok ks.length capk) deep ahead
 have b0:=mal W (.cells #[.string ⟨nm.toArray⟩,.slice o1 ats.length cap1,.slice ok ks.length capk] 25)
 have n0:=mnew W #[.string ⟨nm.toArray⟩,.slice o1 ats.length cap1,.slice ok ks.length capk] 25 0 (.string ⟨nm.toArray⟩) rfl
 have n1:=mnew W #[.string ⟨nm.toArray⟩,.slice o1 ats.length cap1,.slice ok ks.length capk] 25 1 (.slice o1 ats.length cap1) rfl
 have n2:=mnew W #[.string ⟨nm.toArray⟩,.slice o1 ats.length cap1,.slice ok ks.length capk] 25 2 (.slice ok ks.length capk) rfl
 have cA1:=(b0.cell (cell_lt3 cA)).trans cA
 have bW:=hb.trans (b0.mono hb.size)
 have HO1:=HO _ ((hE.below bW)) (NdC.below bW (.mk nm ats ks) hn) (by omega) (by omega)
 clear HO
 unfold strV at *
 have ltA:=cell_lt3 cA
 have ltP:=cell_lt3 cP
 simp only at ltA ltP
 by_cases hz:ck1 nm ats deep ahead=0
 ·rw [hz,errV_zero] at HO1
  have hr:ckN (.mk nm ats ks) deep ahead=ckK ks (deep+1) (ahead+1):=ckN_zero hz
  rw [hr]
  obtain ⟨hd1,ha1⟩:=ck1_zero hz
  clear hr hz n1
  have fA1:=(mfroz b0 (p:=⟨PA,0,none⟩) ltA).trans fA
  have cP1:=(b0.cell (cell_lt3 cP)).trans cP
  have hkm':(ks.length:Int)<=9223372036854775807:=by rw [maxLen_eq] at hkm;omega
  have q1:¬ PA=W.heap.size:=by omega
  have q2:¬ W.heap.size=PA:=by omega
  have ha':(ahead:Int)<100:=by omega
  have HKS:Hid (KdsAt W0 ok 0 ks):=hks
  have IH:Hid (∀ k ∈ ks,Chk E W0 PA PW k):=ih
  clear hks ih
  go_enter Tryz.func66,Tryz.ntmps66
  go_wp2_with (go_at_call 67;refine HO1.mono ?_;rintro e w1 ⟨rfl,hb1⟩;have cA2:=(hb1.cell (cell_lt3 cA1)).trans cA1;have fA2:=(mfroz hb1 (p:=⟨PA,0,none⟩) (cell_lt3 cA1)).trans fA1;have cP2:=(hb1.cell (cell_lt3 cP1)).trans cP1;have m2:=(hb1.cell (cell_lt3 n2)).trans n2)
  have K1:Keep PA W (w1.setCell ⟨PA,0,none⟩ (.int .i64 ((ahead:Int)+1))):=((Keep.of_below b0).trans (Keep.of_below hb1)).setCell _
  have cA3:=mset (v:=.int .i64 ((ahead:Int)+1)) cA2
  have fA3:=mset_froz (v:=.int .i64 ((ahead:Int)+1)) fA2
  have cP3:=Keep.cell ((Keep.of_below (Below.refl _ w1)).setCell (b:=PA) (.int .i64 ((ahead:Int)+1))) cP2 hne
  clear HO1 cA1 cA2 fA1 fA2 cP1 cP2 m2 n2 n0 hb1 b0 bW
  obtain ⟨V,hV⟩:∃ V,w1.setCell ⟨PA,0,none⟩ (.int .i64 ((ahead:Int)+1))=V:=⟨_,rfl⟩
  rw [hV] at K1 cA3 fA3 cP3 ⊢
  clear hV
  have bV:Below W0.heap.size W0 V:=hb.trans (K1.below hA hb.size)
  have sV:=K1.size
  go_loopw [27] (fun y wr=>∃ k a:Nat,k<=ks.length/\y=.int .i64 k/\ckK ks (deep+1) (ahead+1)=ckK (ks.drop k) (deep+1) a/\a<=100/\Keep PA V wr/\wr.cell? ⟨PA,0,none⟩=some (.int .i64 a)/\wr.frozen? ⟨PA,0,none⟩=false) (fun y _=>ks.length - (intOf y).toNat)
  case atStart=>exact ⟨0,ahead+1,Nat.zero_le _,rfl,rfl,by omega,Keep.of_below (Below.refl _ _),by rw [cA3];simp,fA3⟩
  case round=>
   obtain ⟨k,a,hk,rfl,hf,hal,KV,cA4,fA4⟩:=hrel
   have HF:Hid (ckK ks (deep+1) (ahead+1)=ckK (ks.drop k) (deep+1) a):=hf
   clear hf
   have cP4:=KV.cell cP3 hne
   have bR:Below W0.heap.size W0 wr:=bV.trans (KV.below hA (Nat.le_trans hb.size sV))
   by_cases hlt:k<ks.length
   ·have hlt':(k:Int)<(ks.length:Int):=by omega
    obtain ⟨kid,hx,hdr⟩:=drop_at hlt
    obtain ⟨b',off',d0,d1,d2,rfl,e0,e1,e2,hkid⟩:=HKS.out.get hx
    rw [Nat.zero_add] at e0 e1 e2
    have hmem:kid ∈ ks:=List.mem_of_getElem? hx
    have HI:=IH.out kid hmem
    have hkid':=hkid
    obtain ⟨nm',ats',ks'⟩:=kid
    unfold NdC at hkid'
    obtain ⟨rfl, -,⟨o',cap',rfl, -⟩,ok',capk',rfl, -⟩:=hkid'
    have k0:=(bR.cell (cell_lt3 e0)).trans e0
    have k1:=(bR.cell (cell_lt3 e1)).trans e1
    have k2:=(bR.cell (cell_lt3 e2)).trans e2
    unfold strV at k0 k1 k2 hkid
    clear e0 e1 e2 hmem
    have bU:=mal wr (.cells #[.string ⟨nm'.toArray⟩,.slice o' ats'.length cap',.slice ok' ks'.length capk'] 25)
    have u0:=mnew wr #[.string ⟨nm'.toArray⟩,.slice o' ats'.length cap',.slice ok' ks'.length capk'] 25 0 (.string ⟨nm'.toArray⟩) rfl
    have u1:=mnew wr #[.string ⟨nm'.toArray⟩,.slice o' ats'.length cap',.slice ok' ks'.length capk'] 25 1 (.slice o' ats'.length cap') rfl
    have u2:=mnew wr #[.string ⟨nm'.toArray⟩,.slice o' ats'.length cap',.slice ok' ks'.length capk'] 25 2 (.slice ok' ks'.length capk') rfl
    have cA5:=mcell_al (.cells #[.string ⟨nm'.toArray⟩,.slice o' ats'.length cap',.slice ok' ks'.length capk'] 25) cA4
    have cP5:=mcell_al (.cells #[.string ⟨nm'.toArray⟩,.slice o' ats'.length cap',.slice ok' ks'.length capk'] 25) cP4
    have fA5:=(mfroz bU (p:=⟨PA,0,none⟩) (cell_lt3 cA4)).trans fA4
    have HC:=HI _ _ _ (deep+1) a _ hkid (by omega) hal (bR.trans (bU.mono bR.size)) cA5 fA5 cP5
    rw [show ((deep+1:Nat):Int)=(deep:Int)+1 from by omega] at HC
    clear HI hkid cA5 fA5
    have HD:Hid (ks.drop k=Nd.mk nm' ats' ks' :: ks.drop (k+1)):=hdr
    clear hdr hx
    generalize Nd.mk nm' ats' ks'=kid at HC HD
    have hd':(deep:Int)<=10:=by omega
    by_cases hz:(ckN kid (deep+1) a).1=0
    ·have HC0:=HC.mono (R':=fun e w'=>e=.returned .nilIface/\Keep PA (wr.alloc (.cells #[.string ⟨nm'.toArray⟩,.slice o' ats'.length cap',.slice ok' ks'.length capk'] 25)) w'/\w'.cell? ⟨PA,0,none⟩=some (.int .i64 (ckN kid (deep+1) a).2)/\w'.frozen? ⟨PA,0,none⟩=false) (fun e w' h=>by
      rcases h.2 with h2 | h2
      ·exact ⟨h2.2.1,h.1,h2.2.2⟩
      ·exact (h2.1 hz).elim)
     have HS:Hid (ckK ks (deep+1) (ahead+1)=ckK (ks.drop (k+1)) (deep+1) (ckN kid (deep+1) a).2/\(ckN kid (deep+1) a).2<=100):=⟨by rw [HF.out,HD.out];exact ckK_zero hz,ckN_le _ _ _ hz⟩
     clear HC hz
     go_wp2_with (go_at_call 66;refine HC0.mono ?_;rintro e w2 ⟨rfl,K2,cA6,fA6⟩)
     go_roundw
     case rel=>exact ⟨k+1,_,by omega,by go_num,HS.out.1,HS.out.2,(KV.trans (Keep.of_below bU)).trans K2,cA6,fA6⟩
     case measure=>simp [intOf];omega
    ·have HCn:=HC.mono (R':=fun e w'=>Keep PA (wr.alloc (.cells #[.string ⟨nm'.toArray⟩,.slice o' ats'.length cap',.slice ok' ks'.length capk'] 25)) w'/\Flt E (wr.alloc (.cells #[.string ⟨nm'.toArray⟩,.slice o' ats'.length cap',.slice ok' ks'.length capk'] 25)).heap.size (ckN kid (deep+1) a) e w') (fun e w' h=>by
      rcases h.2 with h2 | h2
      ·exact (hz h2.1).elim
      ·exact ⟨h.1,h2.2⟩)
     have HS:Hid (ckK ks (deep+1) (ahead+1)=ckN kid (deep+1) a):=(by rw [HF.out,HD.out];exact ckK_pos hz:ckK ks (deep+1) (ahead+1)=ckN kid (deep+1) a)
     have HP:Hid ((ckN kid (deep+1) a).1≠0):=hz
     have sR:=KV.size
     clear HC hz
     generalize ckN kid (deep+1) a=r at HCn HS HP
     go_wp2_with (go_at_call 66;refine HCn.mono ?_;rintro e w2 ⟨K2,pb,hpb,rfl,z0,z1⟩)
     go_ret
     refine ⟨((K1.trans KV).trans (Keep.of_below bU)).trans K2,.inr ?_⟩
     rw [HS.out]
     exact ⟨HP.out,pb,by simp at hpb;omega,rfl,z0,z1⟩
   ·obtain rfl:k=ks.length:=by omega
    have hz:Hid (ckK ks (deep+1) (ahead+1)=(0,a)):=(by rw [HF.out,List.drop_length];unfold ckK;rfl:ckK ks (deep+1) (ahead+1)=(0,a))
    go_wp2_with fail
    go_ret
    exact ⟨K1.trans KV,.inl (by rw [hz.out];exact ⟨rfl,rfl,cA4,fA4⟩)⟩
 ·rw [errV_pos E hz] at HO1
  have hr:ckN (.mk nm ats ks) deep ahead=(ck1 nm ats deep ahead,ahead):=by unfold ckN;rw [if_neg hz]
  rw [hr]
  clear hr hks ih n1 n2
  go_enter Tryz.func66,Tryz.ntmps66
  go_wp2_with (go_at_call 67;refine HO1.mono ?_;rintro e w1 ⟨rfl,hb1⟩;have cA2:=(hb1.cell (cell_lt3 cA1)).trans cA1)
  go_ret
  have z0:=mnew w1 #[.int .i64 ahead,.iface 409 (.pointer (some (E (ck1 nm ats deep ahead))))] 145 0 (.int .i64 ahead) rfl
  have z1:=mnew w1 #[.int .i64 ahead,.iface 409 (.pointer (some (E (ck1 nm ats deep ahead))))] 145 1 (.iface 409 (.pointer (some (E (ck1 nm ats deep ahead))))) rfl
  exact ⟨((Keep.of_below b0).trans (Keep.of_below hb1)).trans (Keep.of_below (mal w1 _)),.inr ⟨hz,w1.heap.size,(mbel b0 hb1).size,rfl,z0,z1⟩⟩
end
section
open Go.RowKit
set_option maxHeartbeats 4000000
set_option maxRecDepth 20000
theorem run_store_func' (P:Program) (w:World) (a:Addr) (m:Mode) (f:Fn) (x y:Array Value):(store a (.func f x y) m).run P w=stored P w a (.func f x y) m:=run_store P w a _ m rfl
attribute [local go_sem] run_store_func'
theorem mnew_froz (W:World) (cs:Array Value) (t:TypeId) (i:Nat):(W.alloc (.cells cs t)).frozen? ⟨W.heap.size,i,none⟩=false:=by
 have e:(W.alloc (.cells cs t)).heap[W.heap.size]? = some (.cells cs t):=by show (W.heap.push (.cells cs t))[W.heap.size]? = _;simp
 unfold World.frozen?
 simp only [e]
 simp
theorem Check_nd (E:Nat->Addr) (n:Nd) (c0 c1 c2:Value) (W:World) (hE:CE E W) (hn:NdC W c0 c1 c2 n) :
  Calls Tryz.prog 33 #[.agg #[c0,c1,c2]] W fun e w'=>Below W.heap.size W w'/\(((ckN n 1 0).1=0/\e=.returned .nilIface)\/((ckN n 1 0).1≠0/\Flt E W.heap.size (ckN n 1 0) e w')):=by
 have HC:=chk_any E W (W.heap.size+1) (W.heap.size+1+1) hE (by omega) (by omega) n
 unfold Chk at HC
 have hn':=hn
 obtain ⟨nm,ats,ks⟩:=n
 unfold NdC at hn'
 obtain ⟨rfl, -,⟨o1,cap1,rfl, -⟩,ok,capk,rfl, -⟩:=hn'
 have HC':=fun V h1=>HC (strV nm) (.slice o1 ats.length cap1) (.slice ok ks.length capk) 1 0 V hn (by decide) (by decide) h1
 clear HC
 generalize Nd.mk nm ats ks=n at HC' hn ⊢
 unfold strV at *
 have b1:=mal W (.cells #[.string ⟨nm.toArray⟩,.slice o1 ats.length cap1,.slice ok ks.length capk] 25)
 have n0:=mnew W #[.string ⟨nm.toArray⟩,.slice o1 ats.length cap1,.slice ok ks.length capk] 25 0 (.string ⟨nm.toArray⟩) rfl
 have n1:=mnew W #[.string ⟨nm.toArray⟩,.slice o1 ats.length cap1,.slice ok ks.length capk] 25 1 (.slice o1 ats.length cap1) rfl
 have n2:=mnew W #[.string ⟨nm.toArray⟩,.slice o1 ats.length cap1,.slice ok ks.length capk] 25 2 (.slice ok ks.length capk) rfl
 have a0:=mnew (W.alloc (.cells #[.string ⟨nm.toArray⟩,.slice o1 ats.length cap1,.slice ok ks.length capk] 25)) #[.int .i64 0] 3 0 (.int .i64 0) rfl
 have af:=mnew_froz (W.alloc (.cells #[.string ⟨nm.toArray⟩,.slice o1 ats.length cap1,.slice ok ks.length capk] 25)) #[.int .i64 0] 3 0
 have b2:=mal (W.alloc (.cells #[.string ⟨nm.toArray⟩,.slice o1 ats.length cap1,.slice ok ks.length capk] 25)) (.cells #[.int .i64 0] 3)
 have p0:=mnew ((W.alloc (.cells #[.string ⟨nm.toArray⟩,.slice o1 ats.length cap1,.slice ok ks.length capk] 25)).alloc (.cells #[.int .i64 0] 3)) #[.func (.func 66) #[] #[.pointer (some ⟨W.heap.size+1,0,none⟩),.pointer (some ⟨W.heap.size+1+1,0,none⟩)]] 141 0 (.func (.func 66) #[] #[.pointer (some ⟨W.heap.size+1,0,none⟩),.pointer (some ⟨W.heap.size+1+1,0,none⟩)]) rfl
 have b3:=mal ((W.alloc (.cells #[.string ⟨nm.toArray⟩,.slice o1 ats.length cap1,.slice ok ks.length capk] 25)).alloc (.cells #[.int .i64 0] 3)) (.cells #[.func (.func 66) #[] #[.pointer (some ⟨W.heap.size+1,0,none⟩),.pointer (some ⟨W.heap.size+1+1,0,none⟩)]] 141)
 simp only [World.size_alloc] at a0 af p0
 have a3:=(b3.cell (cell_lt3 a0)).trans a0
 have af3:=(mfroz b3 (p:=⟨W.heap.size+1,0,none⟩) (cell_lt3 a0)).trans af
 have m0:=(b3.cell (cell_lt3 ((b2.cell (cell_lt3 n0)).trans n0))).trans ((b2.cell (cell_lt3 n0)).trans n0)
 have m1:=(b3.cell (cell_lt3 ((b2.cell (cell_lt3 n1)).trans n1))).trans ((b2.cell (cell_lt3 n1)).trans n1)
 have m2:=(b3.cell (cell_lt3 ((b2.cell (cell_lt3 n2)).trans n2))).trans ((b2.cell (cell_lt3 n2)).trans n2)
 have bb:=mbel (mbel b1 b2) b3
 have HV:=HC' _ bb a3 af3 p0
 have sz:=bb.size
 clear a0 af n0 n1 n2 b1 b2 b3 HC'
 go_enter Tryz.func33,Tryz.ntmps33
 go_upto_region 4 with fail
 obtain ⟨V,hV⟩:∃ V,((W.alloc (.cells #[.string ⟨nm.toArray⟩,.slice o1 ats.length cap1,.slice ok ks.length capk] 25)).alloc (.cells #[.int .i64 0] 3)).alloc (.cells #[.func (.func 66) #[] #[.pointer (some ⟨W.heap.size+1,0,none⟩),.pointer (some ⟨W.heap.size+1+1,0,none⟩)]] 141)=V:=⟨_,rfl⟩
 rw [hV] at a3 af3 m0 m1 m2 bb HV p0 sz ⊢
 clear hV
 have HV':=HV.mono (R':=fun e w'=>∃ v,e=.returned v/\Keep (W.heap.size+1) V w'/\(((ckN n 1 0).1=0/\v=.nilIface)\/((ckN n 1 0).1≠0/\Flt E V.heap.size (ckN n 1 0) (.returned v) w'))) (fun e w' h=>by
  rcases h.2 with h2 | h2
  ·exact ⟨_,h2.2.1,h.1,.inl ⟨h2.1,rfl⟩⟩
  ·obtain ⟨h3,pb,h4,rfl,h5⟩:=h2
   exact ⟨_,rfl,h.1,.inr ⟨h3,pb,h4,rfl,h5⟩⟩)
 clear HV
 go_wp2_with (go_at_call 66;refine HV'.mono ?_;rintro e w1 ⟨v,rfl,K1,hr⟩)
 go_ret
 refine ⟨bb.trans (K1.below (by omega) sz),?_⟩
 rcases hr with ⟨h1,rfl⟩ | ⟨h1,pb,h2,h3,h4⟩
 ·exact .inl ⟨h1,rfl⟩
 ·exact .inr ⟨h1,pb,Nat.le_trans sz h2,h3,h4⟩
end
section
open Go.RowKit
theorem heap_lt {w:World} {b:Nat} {o:Obj} (h:w.heap[b]? = some o):b<w.heap.size:=(Array.getElem?_eq_some_iff.1 h).1
end
section
open Go.RowKit
mutual
def okN:Nd->Prop
 | .mk nm ats ks=>isNm nm=true/\(∀ a ∈ ats,isNm a.1=true/\isVal a.2=true)/\okL ks
def okL:List Nd->Prop
 | []=>True
 | k :: l=>okN k/\okL l
end
theorem ckL_ok:∀ (ats pre:List (Bs × Bs)),ckL pre ats=0->∀ a ∈ ats,isNm a.1=true/\isVal a.2=true
 | [],_,_,a,ha=>by simp at ha
 | x :: r,pre,h,a,ha=>by
  unfold ckL at h
  split at h
  ·rename_i h0
   rcases List.mem_cons.1 ha with rfl | ha
   ·unfold ckA at h0
    split at h0
    ·rename_i h1
     split at h0
     ·cases h0
     ·split at h0
      ·rename_i h3;exact ⟨h1,h3⟩
      ·cases h0
    ·cases h0
   ·exact ckL_ok r _ h a ha
  ·rename_i h0;exact (h0 h).elim
theorem ck1_ok {nm:Bs} {ats:List (Bs × Bs)} {deep ahead:Nat} (h:ck1 nm ats deep ahead=0):isNm nm=true/\ats.length<=12/\∀ a ∈ ats,isNm a.1=true/\isVal a.2=true:=by
 unfold ck1 at h
 split at h
 ·cases h
 ·split at h
  ·cases h
  ·split at h
   ·rename_i hn
    split at h
    ·cases h
    ·exact ⟨hn,by omega,ckL_ok ats [] h⟩
   ·cases h
mutual
theorem ckN_ok:∀ (n:Nd) (deep ahead:Nat),(ckN n deep ahead).1=0->okN n
 | .mk nm ats ks,deep,ahead,h=>by
  unfold ckN at h
  split at h
  ·rename_i h1
   unfold okN
   exact ⟨(ck1_ok h1).1,(ck1_ok h1).2.2,ckK_ok ks _ _ h⟩
  ·rename_i h1;exact (h1 h).elim
theorem ckK_ok:∀ (l:List Nd) (deep ahead:Nat),(ckK l deep ahead).1=0->okL l
 | [],_,_,_=>by unfold okL;trivial
 | k :: l,deep,ahead,h=>by
  unfold ckK at h
  split at h
  ·rename_i h1
   unfold okL
   exact ⟨ckN_ok k _ _ h1,ckK_ok l _ _ h⟩
  ·rename_i h1;exact (h1 h).elim
end
theorem mbox (w:World) (cs:Array Value) (t:TypeId):(w.alloc (.cells cs t)).heap[w.heap.size]? = some (.cells cs t):=by show (w.heap.push (.cells cs t))[w.heap.size]? = _;simp
theorem bcell {w:World} {N:Nat} {cs:Array Value} {t:TypeId} (h:w.heap[N]? = some (.cells cs t)) (i:Nat) (v:Value) (hv:cs[i]? = some v):w.cell? ⟨N,i,none⟩=some v:=by
 unfold World.cell?
 simp only [h]
 simpa using hv
end
section
open Go.RowKit
theorem mdrew {B:Nat} {w:World}:∀ (k:Nat) {v:World},Below B w v->Below B w (v.drewN k):=fun _ _ h=>⟨h.os,h.tape,h.output,h.size,h.block⟩
end
section
open Go.RowKit
structure FlM where
 nm:Bs
 c:Value
 parent:Int
 deep:Nat
def FlM.cells (x:FlM):List Value:=[.string ⟨x.nm.toArray⟩,x.c,.int .i64 x.parent,.int .i64 x.deep]
def cellsF:List FlM->List Value
 | []=>[]
 | x :: r=>x.cells++cellsF r
theorem cellsF_append:∀ a c:List FlM,cellsF (a++c)=cellsF a++cellsF c
 | [],_=>rfl
 | x :: a,c=>by simp [cellsF,cellsF_append a c]
theorem cellsF_snoc (a:List FlM) (x:FlM):cellsF (a++[x])=cellsF a++x.cells:=by rw [cellsF_append];simp [cellsF]
def FlR (W0:World) (x:FlM) (f:Fl):Prop:=x.nm=f.name/\AtsIn W0 x.c f.attrs/\x.parent=f.parent/\x.deep=f.deep/\x.nm.length<=maxLen
def FlRs (W0:World):List FlM->List Fl->Prop
 | [],[]=>True
 | x :: r,f :: q=>FlR W0 x f/\FlRs W0 r q
 | _,_=>False
theorem FlRs.len {W0:World}:∀ {a:List FlM} {f:List Fl},FlRs W0 a f->a.length=f.length
 | [],[],_=>rfl
 | _ :: r,_ :: q,h=>by simp [FlRs.len (a:=r) (f:=q) h.2]
 | [],_ :: _,h=>h.elim
 | _ :: _,[],h=>h.elim
theorem FlRs.app {W0:World}:∀ {a c:List FlM} {f g:List Fl},FlRs W0 a f->FlRs W0 c g->FlRs W0 (a++c) (f++g)
 | [],_,[],_,_,k=>k
 | _ :: r,_,_ :: q,_,h,k=>⟨h.1,FlRs.app (a:=r) (f:=q) h.2 k⟩
 | [],_,_ :: _,_,h,_=>h.elim
 | _ :: _,_,[],_,h,_=>h.elim
theorem own_low {w:World} {B:Nat} {e:TypeId} {size:Nat} {v:Value} {n:Nat} {xs:List Value} (h:w.ownsRow B e size v n xs):∀ k,v.ownBlock=some k->B<=k:=by
 rcases h.2 with ⟨rfl,_⟩ | ⟨g,cap,cur,rfl,hg,_⟩
 ·intro k hk;cases hk
 ·intro k hk
  cases hk
  exact hg
theorem own_kind {w:World} {B:Nat} {e:TypeId} {size:Nat} {v:Value} {n:Nat} {xs:List Value} (h:w.ownsRow B e size v n xs):∀ g,v.ownBlock=some g->∃ c fz,w.heap[g]? = some (.cells c e fz):=by
 rcases h.2 with ⟨rfl,_⟩ | ⟨g,cap,cur,rfl,_,hgg,_⟩
 ·intro k hk;cases hk
 ·intro k hk
  cases hk
  exact ⟨cur,_,hgg⟩
structure FK (B:Nat) (w w':World):Prop where
 low:Below B w w'
 oth:Lib.OthersKept 35 none w w'
theorem FK.trans {B:Nat} {w w' w'':World} (h:FK B w w') (k:FK B w' w''):FK B w w'':=⟨h.low.trans k.low,h.oth.trans k.oth⟩
theorem FK.refl (B:Nat) (w:World):FK B w w:=⟨Below.refl _ _,Lib.OthersKept.refl _ _ _⟩
theorem FK.al {B:Nat} (w:World) (o:Obj) (hB:B<=w.heap.size):FK B w (w.alloc o):=⟨(Below.refl B w).alloc hB o,(Lib.OthersKept.refl _ _ w).alloc o⟩
theorem FK.box {B:Nat} {w w':World} (h:FK B w w') {N:Nat} {cs:Array Value} {t:TypeId} (hN:w.heap[N]? = some (.cells cs t)) (ht:t≠35):w'.heap[N]? = some (.cells cs t):=
 h.oth N _ hN (fun e=>nomatch e) (fun c fz e=>by cases e;exact ht rfl)
theorem FK.grown {B:Nat} {w w':World} {v:Value} {n:Nat} {xs:List Value} (ho:w.ownsRow B 35 4 v n xs) (hg:w.grownBy w' v.ownBlock) (hB:B<=w.heap.size):FK B w w':=
 ⟨(Below.refl B w).grown hg hB (own_low ho),(Lib.OthersKept.refl _ _ w).grown hg (own_kind ho)⟩
theorem FK.grown0 {B:Nat} {w w':World} (hg:w.grownBy w' none) (hB:B<=w.heap.size):FK B w w':=
 ⟨(Below.refl B w).grown hg hB (fun _ hk=>nomatch hk),(Lib.OthersKept.refl _ _ w).grown hg (fun _ hk=>nomatch hk)⟩
theorem flatInfo:(Tryz.prog.info? 35).map (fun i=>(i.zero,i.size,i.bytes))=some (some (.agg #[.string ⟨#[]⟩,.slice none 0 0,.int .i64 0,.int .i64 0]),4,56):=by kernel_rfl
theorem own_slice {w:World} {B:Nat} {e:TypeId} {k:Nat} {v:Value} {n:Nat} {xs:List Value} (h:w.ownsRow B e k v n xs):∃ o cap,v=.slice o n cap:=by
 rcases h.2 with ⟨hv,hn⟩ | ⟨g,cap,cur,hv,_⟩
 ·exact ⟨_,_,by rw [hv,hn]⟩
 ·exact ⟨_,_,hv⟩
theorem four_cells (w:World) (a b c d:Value) (t:TypeId):∀ j u,[a,b,c,d][j]? = some u->(w.alloc (.cells #[a,b,c,d] t)).cell? ((⟨w.heap.size,0,none⟩:Addr).add j)=some u:=by
 intro j u h
 have e:(⟨w.heap.size,0,none⟩:Addr).add j=⟨w.heap.size,j,none⟩:=by unfold Addr.add;split <;> simp_all
 rw [e]
 exact mnew w #[a,b,c,d] t j u (by simpa using h)
theorem flL_append (k:Nat) (p:Int) (d:Nat):∀ (a c:List Nd),flL k p d (a++c)=flL k p d a++flL (k+(flL k p d a).length) p d c:=by
 intro a
 induction a generalizing k with
 | nil=>intro c;simp [flL]
 | cons x a ih=>
  intro c
  rw [List.cons_append,flL,flL,ih,List.length_append,List.append_assoc,Nat.add_assoc]
theorem flL_more {k:Nat} {p:Int} {d:Nat} {ks:List Nd} {i:Nat} {x:Nd} (hx:ks[i]? = some x):flL k p d (ks.take (i+1))=flL k p d (ks.take i)++flN (k+(flL k p d (ks.take i)).length) p d x:=by
 rw [List.take_add_one,hx,flL_append];simp [flL]
end
section
open Go.RowKit
def cellsA:List (Bs × Bs)->List Value
 | []=>[]
 | x :: r=>[.string ⟨x.1.toArray⟩,.string ⟨x.2.toArray⟩]++cellsA r
theorem row_get {w:World} {B k:Nat} {e:TypeId} {v:Value} {n:Nat} {xs:List Value} (h:w.ownsRow B e k v n xs) (j:Nat) (u:Value) (hj:xs[j]? = some u):∃ g,v.ownBlock=some g/\w.cell? ⟨g,j,none⟩=some u:=by
 obtain ⟨h1,h2⟩:=h
 rcases h2 with ⟨_,h2⟩ | ⟨g,cap,cur,h3,h4,h5,h6,h7,h8,h9⟩
 ·subst h2
  have hx:xs=[]:=List.eq_nil_of_length_eq_zero (by simpa using h1)
  rw [hx] at hj
  simp at hj
 ·refine ⟨g,by rw [h3];rfl,?_⟩
  rw [<- h9,List.getElem?_take] at hj
  split at hj
  ·unfold World.cell?
   rw [h5]
   simpa using hj
  ·cases hj
theorem row_slice {w:World} {B k:Nat} {e:TypeId} {v:Value} {n:Nat} {xs:List Value} (h:w.ownsRow B e k v n xs):∃ o cap,v=.slice o n cap/\n<=cap/\cap<=maxLen/\(o=none->cap=0)/\∀ g,v.ownBlock=some g->o=some ⟨g,0,none⟩:=by
 rcases h.2 with ⟨h1,h2⟩ | ⟨g,cap,cur,h3,h4,h5,h6,h7,h8,h9⟩
 ·exact ⟨none,0,by rw [h1,h2],by omega,by omega,fun _=>rfl,fun g hg=>by rw [h1] at hg;cases hg⟩
 ·exact ⟨_,cap,h3,h6,h7,(fun h=>by cases h),(fun g' hg=>by rw [h3] at hg;cases hg;rfl)⟩
theorem own_same {w w':World} {B k n:Nat} {e:TypeId} {v:Value} {xs:List Value} (h:w.ownsRow B e k v n xs) (hs:∀ g,v.ownBlock=some g->w'.heap[g]? = w.heap[g]?):w'.ownsRow B e k v n xs:=by
 obtain ⟨h1,h2⟩:=h
 refine ⟨h1,?_⟩
 rcases h2 with h2 | ⟨g,cap,cur,h3,h4,h5,h6⟩
 ·exact .inl h2
 ·exact .inr ⟨g,cap,cur,h3,h4,(hs g (by rw [h3];rfl)).trans h5,h6⟩
theorem own_bel {B k n:Nat} {e:TypeId} {v:Value} {xs:List Value} {w w':World} (h:w.ownsRow B e k v n xs) (hb:Below w.heap.size w w'):w'.ownsRow B e k v n xs:=
 own_same h fun g hg=>hb.block g (h.lt g hg).2
theorem own_ne {R B k n:Nat} {e:TypeId} {v:Value} {xs:List Value} {w:World} (h:w.ownsRow B e k v n xs) (hR:R<B):some R≠v.ownBlock:=fun e=>by have:=(h.lt R e.symm).1;omega
theorem attrInfo:(Tryz.prog.info? 49).map (fun i=>(i.zero,i.size,i.bytes))=some (some (.agg #[.string ⟨#[]⟩,.string ⟨#[]⟩]),2,32):=by kernel_rfl
theorem intInfo:(Tryz.prog.info? 3).map (fun i=>(i.zero,i.size,i.bytes))=some (some (.int .i64 0),1,8):=by kernel_rfl
def NB (N:Nat) (c0 c1 c2:Value) (w:World):Prop:=w.heap[N]? = some (.cells #[c0,c1,c2] 25)
theorem NB.c0 {N:Nat} {c0 c1 c2:Value} {w:World} (h:NB N c0 c1 c2 w):w.cell? ⟨N,0,none⟩=some c0:=bcell h 0 _ rfl
theorem NB.c1 {N:Nat} {c0 c1 c2:Value} {w:World} (h:NB N c0 c1 c2 w):w.cell? ⟨N,1,none⟩=some c1:=bcell h 1 _ rfl
theorem NB.c2 {N:Nat} {c0 c1 c2:Value} {w:World} (h:NB N c0 c1 c2 w):w.cell? ⟨N,2,none⟩=some c2:=bcell h 2 _ rfl
end
section
open Go.RowKit
inductive Tg where
 | doc
 | map
 | el (i:Int)
 | ats (i:Int)
 | kids (i:Int)
abbrev Tags:=Nat->Option Tg
def intsV (l:List Int):List Value:=l.map (Value.int .i64)
theorem intsV_app (a b:List Int):intsV (a++b)=intsV a++intsV b:=List.map_append
theorem intsV_len (l:List Int):(intsV l).length=l.length:=List.length_map ..
theorem intsV_get {l:List Int} {j:Nat} {k:Int} (h:l[j]? = some k):(intsV l)[j]? = some (.int .i64 k):=by
 unfold intsV
 rw [List.getElem?_map,h]
 rfl
abbrev Wf64 (k:Int):Prop:=(Lit.int .i64 k).wf=true
structure ElW (B:Nat) (tg:Tags) (w:World) (i:Int) (b:Nat) (e:Elm) (va vk:Value):Prop where
 cells:w.heap[b]? = some (.cells #[.string ⟨e.name.toArray⟩,va,.int .i64 e.parent,vk] 97)
 tag:tg b=some (.el i)
 ats:w.ownsRow B 49 2 va e.ats.length (cellsA e.ats)
 atag:∀ g,va.ownBlock=some g->tg g=some (.ats i)
 kids:w.ownsRow B 3 1 vk e.kids.length (intsV e.kids)
 ktag:∀ g,vk.ownBlock=some g->tg g=some (.kids i)
theorem ElW.turn {B:Nat} {tg tg':Tags} {w w':World} {i:Int} {b:Nat} {e:Elm} {va vk:Value} (h:ElW B tg w i b e va vk) (hs:∀ g t,tg g=some t->(t=.el i\/t=.ats i\/t=.kids i)->tg' g=some t/\w'.heap[g]? = w.heap[g]?):ElW B tg' w' i b e va vk where
 cells:=((hs b _ h.tag (.inl rfl)).2).trans h.cells
 tag:=(hs b _ h.tag (.inl rfl)).1
 ats:=own_same h.ats fun g hg=>(hs g _ (h.atag g hg) (.inr (.inl rfl))).2
 atag:=fun g hg=>(hs g _ (h.atag g hg) (.inr (.inl rfl))).1
 kids:=own_same h.kids fun g hg=>(hs g _ (h.ktag g hg) (.inr (.inr rfl))).2
 ktag:=fun g hg=>(hs g _ (h.ktag g hg) (.inr (.inr rfl))).1
theorem ElW.c0 {B:Nat} {tg:Tags} {w:World} {i:Int} {b:Nat} {e:Elm} {va vk:Value} (h:ElW B tg w i b e va vk):w.cell? ⟨b,0,none⟩=some (.string ⟨e.name.toArray⟩):=bcell h.cells 0 _ rfl
theorem ElW.c1 {B:Nat} {tg:Tags} {w:World} {i:Int} {b:Nat} {e:Elm} {va vk:Value} (h:ElW B tg w i b e va vk):w.cell? ⟨b,1,none⟩=some va:=bcell h.cells 1 _ rfl
theorem ElW.c2 {B:Nat} {tg:Tags} {w:World} {i:Int} {b:Nat} {e:Elm} {va vk:Value} (h:ElW B tg w i b e va vk):w.cell? ⟨b,2,none⟩=some (.int .i64 e.parent):=bcell h.cells 2 _ rfl
theorem ElW.c3 {B:Nat} {tg:Tags} {w:World} {i:Int} {b:Nat} {e:Elm} {va vk:Value} (h:ElW B tg w i b e va vk):w.cell? ⟨b,3,none⟩=some vk:=bcell h.cells 3 _ rfl
theorem froz_at {w:World} {b:Nat} {cs:Array Value} {t:TypeId} (h:w.heap[b]? = some (.cells cs t)) (i:Nat):w.frozen? ⟨b,i,none⟩=false:=by
 unfold World.frozen?
 rw [h]
 simp
structure DocW (B:Nat) (tg:Tags) (w:World) (DB MB:Nat) (p:Int->Option Nat) (M:Dm) (nx c:Nat):Prop where
 doc:w.heap[DB]? = some (.cells #[.map (some MB),.int .i64 nx] 92)
 dtag:tg DB=some .doc
 map:PMap Tryz.prog 3 w MB p nx c
 mtag:tg MB=some .map
 els:∀ i e,M i=some e->∃ b va vk,p i=some b/\ElW B tg w i b e va vk
 non:∀ i,M i=none->p i=none
 low:∀ b t,tg b=some t->B<=b/\b<w.heap.size
 dom:∀ i e,M i=some e->0<=i/\i<nx
 wf:∀ i e,M i=some e->Wf64 e.parent/\∀ k ∈ e.kids,Wf64 k
 few:nx<=1000000
 tnx:∀ b i,tg b=some (.el i)\/tg b=some (.ats i)\/tg b=some (.kids i)->i<nx
structure K2 (r n:Nat) (W w:World):Prop where
 os:w.os=W.os
 tape:w.tape=W.tape
 output:w.output=W.output
 size:W.heap.size<=w.heap.size
 block:∀ k,k<W.heap.size->k≠r->k≠n->w.heap[k]? = W.heap[k]?
theorem K2.trans {r n:Nat} {A B C:World} (h:K2 r n A B) (k:K2 r n B C):K2 r n A C:=
 ⟨k.os.trans h.os,k.tape.trans h.tape,k.output.trans h.output,Nat.le_trans h.size k.size,fun i hi h1 h2=>(k.block i (Nat.lt_of_lt_of_le hi h.size) h1 h2).trans (h.block i hi h1 h2)⟩
theorem K2.of_below {r n:Nat} {A B:World} (h:Below A.heap.size A B):K2 r n A B:=⟨h.os,h.tape,h.output,h.size,fun i hi _ _=>h.block i hi⟩
theorem K2.below {r n m:Nat} {A B:World} (h:K2 r n A B) (h1:m<=r) (h2:m<=n) (hm:m<=A.heap.size):Below m A B:=⟨h.os,h.tape,h.output,h.size,fun i hi=>h.block i (by omega) (by omega) (by omega)⟩
theorem K2.cell {r n:Nat} {A B:World} (h:K2 r n A B) {b i:Nat} {v:Value} (hc:A.cell? ⟨b,i,none⟩=some v) (h1:b≠r) (h2:b≠n):B.cell? ⟨b,i,none⟩=some v:=by
 rw [World.cell?_of_block (h.block b (cell_lt3 hc) h1 h2)];exact hc
structure KT (tg:Tags) (w w':World):Prop where
 os:w'.os=w.os
 tape:w'.tape=w.tape
 output:w'.output=w.output
 size:w.heap.size<=w'.heap.size
 block:∀ b,b<w.heap.size->tg b=none->w'.heap[b]? = w.heap[b]?
section
variable {B:Nat} {tg tg':Tags} {w w':World} {DB MB:Nat} {p:Int->Option Nat} {M:Dm} {nx c:Nat}
theorem DocW.turn (h:DocW B tg w DB MB p M nx c) (hs:∀ g t,tg g=some t->w'.heap[g]? = w.heap[g]?) (hz:w.heap.size<=w'.heap.size):DocW B tg w' DB MB p M nx c where
 doc:=(hs DB _ h.dtag).trans h.doc
 dtag:=h.dtag
 map:=h.map.same (hs MB _ h.mtag)
 mtag:=h.mtag
 els:=fun i e he=>by
  obtain ⟨b,va,vk,h1,h2⟩:=h.els i e he
  exact ⟨b,va,vk,h1,h2.turn fun g t ht _=>⟨ht,hs g t ht⟩⟩
 non:=h.non
 low:=fun b t ht=>⟨(h.low b t ht).1,Nat.lt_of_lt_of_le (h.low b t ht).2 hz⟩
 dom:=h.dom
 wf:=h.wf
 few:=h.few
 tnx:=h.tnx
theorem DocW.below (h:DocW B tg w DB MB p M nx c) (hb:Below w.heap.size w w'):DocW B tg w' DB MB p M nx c:=
 h.turn (fun g t ht=>hb.block g (h.low g t ht).2) hb.size
theorem DocW.d0 (h:DocW B tg w DB MB p M nx c):w.cell? ⟨DB,0,none⟩=some (.map (some MB)):=bcell h.doc 0 _ rfl
theorem DocW.d1 (h:DocW B tg w DB MB p M nx c):w.cell? ⟨DB,1,none⟩=some (.int .i64 nx):=bcell h.doc 1 _ rfl
theorem DocW.i64 (h:DocW B tg w DB MB p M nx c) {i:Int} {e:Elm} (he:M i=some e):Wf64 i:=by
 have:=h.dom i e he
 have:=h.few
 exact WalkArith.wf_i64 (by omega)
theorem DocW.new (h:DocW B tg w DB MB p M nx c) {b:Nat} (hb:w.heap.size<=b):tg b=none:=by
 cases ht:tg b with
 | none=>rfl
 | some t=>have:=(h.low b t ht).2;omega
theorem DocW.put (h:DocW B tg w DB MB p M nx c) {i:Int} {e e':Elm} {b:Nat} {va vk:Value} (hi:M i=some e) (hb:p i=some b) (he:ElW B tg' w' i b e' va vk) (_hz:w.heap.size<=w'.heap.size) (hw:Wf64 e'.parent/\∀ k ∈ e'.kids,Wf64 k)
  (hg:∀ x,x<w.heap.size->tg' x=tg x) (hl:∀ x t,tg' x=some t->B<=x/\x<w'.heap.size) (ht:∀ x,w.heap.size<=x->tg' x=none\/tg' x=some (.el i)\/tg' x=some (.ats i)\/tg' x=some (.kids i)) (hs:∀ x t,tg x=some t->t≠.el i->t≠.ats i->t≠.kids i->w'.heap[x]? = w.heap[x]?):DocW B tg' w' DB MB p (putE M i e') nx c where
 doc:=(hs DB _ h.dtag (by simp) (by simp) (by simp)).trans h.doc
 dtag:=(hg DB (h.low _ _ h.dtag).2).trans h.dtag
 map:=h.map.same (hs MB _ h.mtag (by simp) (by simp) (by simp))
 mtag:=(hg MB (h.low _ _ h.mtag).2).trans h.mtag
 els:=fun j f hf=>by
  unfold putE at hf
  split at hf
  ·rename_i hj
   subst hj
   cases hf
   exact ⟨b,va,vk,hb,he⟩
  ·rename_i hj
   obtain ⟨b',va',vk',h1,h2⟩:=h.els j f hf
   refine ⟨b',va',vk',h1,h2.turn fun g t ht hk=>⟨(hg g (h.low g t ht).2).trans ht,hs g t ht ?_ ?_ ?_⟩⟩
   all_goals rcases hk with rfl | rfl | rfl <;> simp [hj]
 non:=fun j hj=>by
  unfold putE at hj
  split at hj
  ·cases hj
  ·exact h.non j hj
 low:=hl
 dom:=fun j f hf=>by
  unfold putE at hf
  split at hf
  ·rename_i hj;subst hj;exact h.dom _ e hi
  ·exact h.dom j f hf
 wf:=fun j f hf=>by
  unfold putE at hf
  split at hf
  ·cases hf;exact hw
  ·exact h.wf j f hf
 few:=h.few
 tnx:=fun x j hj=>by
  by_cases hx:x<w.heap.size
  ·rw [hg x hx] at hj
   exact h.tnx x j hj
  ·have hij:j=i:=by
    rcases ht x (by omega) with h1 | h1 | h1 | h1 <;> rw [h1] at hj <;> simp at hj <;> exact hj.symm
   rw [hij]
   exact (h.dom i e hi).2
end
end
end Go.Proofs.YtgphclgmmocdhaaGreatDoor

/-
  Parts of the proof.
-/
import Derived.Test.YtjfiehbcamfdfaaGreatDoorQy5
import Derived.Test.YtjfiehbcamfdfaaGreatDoorChecked
import Derived.Lib.QuietBelow
import Derived.Test.YtjfiehbcamfdfaaGreatDoorQy10
namespace Go.Proofs.YtjfiehbcamfdfaaGreatDoor
open Go.Proofs.Tryz
section
open Go.RowKit
set_option maxHeartbeats 2000000
theorem Ea (s:ByteArray):s.data.toList.length=s.size:=Array.length_toList
theorem Oy (s:ByteArray)(i:Nat)(h:i<s.size):s.data.toList[i]'(by rw[Ea];exact h)=s[i]:=by simp[ByteArray.getElem_eq_getElem_data]
theorem a6L (c d:UInt8):(c<=d)↔((c.toNat:Int)<=(d.toNat:Int)):=by rw[UInt8.le_iff_toNat_le];omega
theorem Zv (c d:UInt8):(c<d)↔((c.toNat:Int)<(d.toNat:Int)):=by rw[UInt8.lt_iff_toNat_lt];omega
theorem Cz (c d:UInt8):(c=d)↔((c.toNat:Int)=(d.toNat:Int)):=by rw[<- UInt8.toNat_inj];omega
theorem vg (c:UInt8):(c.toNat:Int)<=255:=by have:=c.toNat_lt;omega
theorem Zw {s:ByteArray}(h:0<s.size):s.toList.isEmpty=false:=by
 rw[ByteArray.toList_eq,List.isEmpty_eq_false_iff];intro e;have:=Ea s;rw[e] at this;simp at this;omega
theorem UT (c:UInt8):yG c=true↔97<=(c.toNat:Int)/\(c.toNat:Int)<=122:=by
 simp only[yG,Bool.and_eq_true,decide_eq_true_eq,a6L];rfl
theorem UU (c:UInt8):LK c=true↔48<=(c.toNat:Int)/\(c.toNat:Int)<=57:=by
 simp only[LK,Bool.and_eq_true,decide_eq_true_eq,a6L];rfl
theorem iq (c:UInt8)(w:World):ak 149 #[.int .u8 c.toNat] w fun e w'=>e=.returned (.bool (yG c))/\w'=w:=by
 have hb:=vg c;have hL:=UT c;generalize yG c=b at hL⊢;by_cases h1:97<=(c.toNat:Int)
 ·by_cases h2:(c.toNat:Int)<=122
  ·obtain rfl:b=true:=hL.2 ⟨h1,h2⟩;clear hL;go_enter func149,ntmps149;go_wp2;go_ret;exact⟨rfl,rfl⟩
  ·obtain rfl:b=false:=by cases b with
    |false=>rfl
    |true=>exact(h2 (hL.1 rfl).2).elim
   clear hL;go_enter func149,ntmps149;go_wp2;go_ret;exact⟨rfl,rfl⟩
 ·obtain rfl:b=false:=by cases b with
   |false=>rfl
   |true=>exact(h1 (hL.1 rfl).1).elim
  clear hL;go_enter func149,ntmps149;go_wp2;go_ret;exact⟨rfl,rfl⟩
theorem qL (c:UInt8)(w:World):ak 150 #[.int .u8 c.toNat] w fun e w'=>e=.returned (.bool (LK c))/\w'=w:=by
 have hb:=vg c;have hL:=UU c;generalize LK c=b at hL⊢;by_cases h1:48<=(c.toNat:Int)
 ·by_cases h2:(c.toNat:Int)<=57
  ·obtain rfl:b=true:=hL.2 ⟨h1,h2⟩;clear hL;go_enter func150,ntmps150;go_wp2;go_ret;exact⟨rfl,rfl⟩
  ·obtain rfl:b=false:=by cases b with
    |false=>rfl
    |true=>exact(h2 (hL.1 rfl).2).elim
   clear hL;go_enter func150,ntmps150;go_wp2;go_ret;exact⟨rfl,rfl⟩
 ·obtain rfl:b=false:=by cases b with
   |false=>rfl
   |true=>exact(h1 (hL.1 rfl).1).elim
  clear hL;go_enter func150,ntmps150;go_wp2;go_ret;exact⟨rfl,rfl⟩
theorem UW (s:ByteArray):fo s.data.toList=true↔∃h0:0<s.size,s.size<=12/\yG s[0]=true/\∀i (h:i<s.size),1<=i->I5 s[i]=true:=by
 have hl:=Ea s;have hg:=fun i h=>Oy s i h;constructor
 ·intro h;cases hs:s.data.toList with
  |nil=>rw[hs] at h;simp[fo] at h
  |cons c r=>
   rw[hs] at h hl;simp only[fo,Bool.and_eq_true,decide_eq_true_eq,List.all_eq_true] at h;have h0:0<s.size:=by rw[<- hl];simp
   refine⟨h0,by rw[<- hl];exact h.1.1,?_,fun i hi h1=>?_⟩
   ·rw[<- hg 0 h0];simp only[hs,List.getElem_cons_zero];exact h.1.2
   ·obtain⟨j,rfl⟩:∃j,i=j+1:=⟨i-1,by omega⟩;rw[<- hg _ hi];simp only[hs,List.getElem_cons_succ];exact h.2 _ (List.getElem_mem _)
 ·rintro⟨h0,h1,h2,h3⟩;cases hs:s.data.toList with
  |nil=>rw[hs] at hl;simp at hl;omega
  |cons c r=>
   rw[hs] at hl;simp only[fo,Bool.and_eq_true,decide_eq_true_eq,List.all_eq_true];refine⟨⟨by rw[hl];exact h1,?_⟩,fun d hd=>?_⟩
   ·have:=hg 0 h0;simp only[hs,List.getElem_cons_zero] at this;rw[this];exact h2
   ·obtain⟨i,hi,rfl⟩:=List.mem_iff_getElem.1 hd;have hlt:i+1<s.size:=by rw[<- hl];simp;exact hi
    have:=hg (i+1) hlt;simp only[hs,List.getElem_cons_succ] at this;rw[this];exact h3 _ hlt (by omega)
theorem kZ (s:ByteArray)(hs:s.size<=9223372036854775807)(w:World):ak 102 #[.string s] w fun e w'=>e=.returned (.bool (fo s.data.toList))/\w'=w:=by
 have hN:=UW s;generalize fo s.data.toList=b at hN⊢;have NO:Hid ((¬∃h0:0<s.size,s.size<=12/\yG s[0]=true/\∀i (h:i<s.size),1<=i->I5 s[i]=true)->b=false):=fun h=>by
  cases b with
  |false=>rfl
  |true=>exact(h (hN.1 rfl)).elim
 have YES:Hid ((∃h0:0<s.size,s.size<=12/\yG s[0]=true/\∀i (h:i<s.size),1<=i->I5 s[i]=true)->b=true):=hN.2;clear hN;have hmax:(s.size:Int)<=9223372036854775807:=by omega
 by_cases h0:0<s.size
 ·have hE:=Zw h0;have hE':¬s.toList=[]:=by intro e;rw[e] at hE;simp at hE
  have hz:(0:Int)<(s.size:Int):=by omega
  by_cases h1:s.size<=12
  ·have h1':(s.size:Int)<=12:=by omega
   cases h2:yG s[0] with
   |false=>
    obtain rfl:=NO.out (fun⟨_,_,h,_⟩=>by rw[h2] at h;cases h);clear NO YES;go_enter func102,ntmps102;go_wp2_with(go_at_call 149;refine(iq s[0] _).mono ?_;rw[h2];rintro e w1 ⟨rfl,rfl⟩);go_ret;exact⟨rfl,rfl⟩
   |true=>
    go_enter func102,ntmps102;go_wp2_with(go_at_call 149;refine(iq s[0] _).mono ?_;rw[h2];rintro e w1 ⟨rfl,rfl⟩)
    go_loop [3] (fun y=>∃k:Nat,k<=s.size/\1<=k/\y=aa k/\∀i (h:i<s.size),1<=i->i<k->I5 s[i]=true) (fun y=>s.size-(intOf y).toNat)
    case atStart=>exact⟨1,by omega,by omega,rfl,fun i _ a b=>by omega⟩
    case round=>
     obtain⟨k,hk,hk1,rfl,hall⟩:=hrel;have HA:Hid (∀i (h:i<s.size),1<=i->i<k->I5 s[i]=true):=hall;clear hall;by_cases hlt:k<s.size
     ·have hlt':(k:Int)<(s.size:Int):=by omega
      have hb:=vg s[k];cases hl:yG s[k] with
      |true=>
       go_wp2_with(go_at_call 149;refine(iq s[k] _).mono ?_;rw[hl];rintro e w2 ⟨rfl,rfl⟩)
       go_round
       case rel=>exact⟨k+1,by omega,by omega,by go_num,fun i h a b=>by
        by_cases e:i<k
        ·exact HA.out i h a e
        ·obtain rfl:i=k:=by omega
         simp[I5,hl]⟩
       case measure=>simp[intOf];omega
      |false=>
       cases hd:LK s[k] with
       |true=>
        go_wp2_with(first|(go_at_call 149;refine(iq s[k] _).mono ?_;rw[hl];rintro e w2 ⟨rfl,rfl⟩)|(go_at_call 150;refine(qL s[k] _).mono ?_;rw[hd];rintro e w3 ⟨rfl,rfl⟩))
        go_round
        case rel=>exact⟨k+1,by omega,by omega,by go_num,fun i h a b=>by
         by_cases e:i<k
         ·exact HA.out i h a e
         ·obtain rfl:i=k:=by omega
          simp[I5,hd]⟩
        case measure=>simp[intOf];omega
       |false=>
        by_cases h45:(s[k].toNat:Int)=45
        ·have L45:∀w,ak 149 #[.int .u8 45] w fun e w'=>e=.returned (.bool false)/\w'=w:=fun w=>by have:=iq 45 w;rwa[show yG 45=false from by decide,show(((45:UInt8).toNat:Nat):Int)=45 from by decide] at this
         have D45:∀w,ak 150 #[.int .u8 45] w fun e w'=>e=.returned (.bool false)/\w'=w:=fun w=>by have:=qL 45 w;rwa[show LK 45=false from by decide,show(((45:UInt8).toNat:Nat):Int)=45 from by decide] at this
         have e45:Hid (I5 s[k]=true):=(by have:s[k]=45:=(Cz _ _).2 (h45.trans (by decide));simp[I5,this]:I5 s[k]=true);go_wp2_with(first|(go_at_call 149;refine(L45 _).mono ?_;rintro e w2 ⟨rfl,rfl⟩)|(go_at_call 150;refine(D45 _).mono ?_;rintro e w3 ⟨rfl,rfl⟩))
         go_round
         case rel=>exact⟨k+1,by omega,by omega,by go_num,fun i h a b=>by
          by_cases e:i<k
          ·exact HA.out i h a e
          ·obtain rfl:i=k:=by omega
           exact e45.out⟩
         case measure=>simp[intOf];omega
        ·have hn:I5 s[k]=false:=by
          have:¬s[k]=45:=fun e=>h45 (((Cz _ _).1 e).trans (by decide));simp[I5,hl,hd,this]
         obtain rfl:=NO.out (fun⟨_,_,_,h⟩=>by have:=h k hlt hk1;rw[hn] at this;cases this);clear NO YES HA hn;go_wp2_with(first|(go_at_call 149;refine(iq s[k] _).mono ?_;rw[hl];rintro e w2 ⟨rfl,rfl⟩)|(go_at_call 150;refine(qL s[k] _).mono ?_;rw[hd];rintro e w3 ⟨rfl,rfl⟩));go_ret;exact⟨rfl,rfl⟩
     ·obtain rfl:=YES.out ⟨h0,h1,h2,fun i h a=>HA.out i h a (by omega)⟩;clear NO YES HA;have hge:¬(k:Int)<(s.size:Int):=by omega
      go_wp2_with fail;go_ret;exact⟨rfl,rfl⟩
  ·obtain rfl:=NO.out (fun⟨_,h,_⟩=>h1 h);clear NO YES;have h1':12<(s.size:Int):=by omega
   go_enter func102,ntmps102;go_wp2_with fail;go_ret;exact⟨rfl,rfl⟩
 ·obtain rfl:=NO.out (fun⟨h,_⟩=>h0 h);clear NO YES;have hE:s.toList.isEmpty=true:=by
   rw[ByteArray.toList_eq,List.isEmpty_iff];exact List.length_eq_zero_iff.1 (by rw[Ea];omega)
  have hE':s.toList=[]:=List.isEmpty_iff.1 hE;go_enter func102,ntmps102;go_wp2_with fail;go_ret;exact⟨rfl,rfl⟩
end
section
open Go.RowKit
set_option maxHeartbeats 2000000
theorem QD (s:ByteArray):isVal s.data.toList=true↔s.size<=200/\∀i (h:i<s.size),32<=(s[i].toNat:Int)/\(s[i].toNat:Int)<=126:=by
 have hl:=Ea s;simp only[isVal,Bool.and_eq_true,decide_eq_true_eq,List.all_eq_true,hl,Bool.not_eq_true',decide_eq_false_iff_not];refine and_congr_right fun _=>⟨fun h i hi=>?_,fun h c hc=>?_⟩
 ·have:=h s[i] (by rw[<- Oy s i hi];exact List.getElem_mem _);rw[Zv,Zv] at this;have e1:(((32:UInt8).toNat:Nat):Int)=32:=by decide
  have e2:(((126:UInt8).toNat:Nat):Int)=126:=by decide
  rw[e1,e2] at this;omega
 ·obtain⟨i,hi,rfl⟩:=List.mem_iff_getElem.1 hc;rw[hl] at hi;have:=h i hi;rw[Oy s i hi,Zv,Zv];have e1:(((32:UInt8).toNat:Nat):Int)=32:=by decide
  have e2:(((126:UInt8).toNat:Nat):Int)=126:=by decide
  rw[e1,e2];omega
theorem xX (s:ByteArray)(hs:s.size<=9223372036854775807)(w:World):ak 111 #[.string s] w fun e w'=>e=.returned (.bool (isVal s.data.toList))/\w'=w:=by
 have hN:=QD s;generalize isVal s.data.toList=b at hN⊢;have NO:Hid ((¬(s.size<=200/\∀i (h:i<s.size),32<=(s[i].toNat:Int)/\(s[i].toNat:Int)<=126))->b=false):=fun h=>by
  cases b with
  |false=>rfl
  |true=>exact(h (hN.1 rfl)).elim
 have YES:Hid ((s.size<=200/\∀i (h:i<s.size),32<=(s[i].toNat:Int)/\(s[i].toNat:Int)<=126)->b=true):=hN.2;clear hN;have hmax:(s.size:Int)<=9223372036854775807:=by omega
 by_cases h1:s.size<=200
 ·have h1':(s.size:Int)<=200:=by omega
  go_enter func111,ntmps111;go_wp2_with fail
  go_loop [3] (fun y=>∃k:Nat,k<=s.size/\y=aa k/\∀i (h:i<s.size),i<k->32<=(s[i].toNat:Int)/\(s[i].toNat:Int)<=126) (fun y=>s.size-(intOf y).toNat)
  case atStart=>exact⟨0,by omega,rfl,fun i _ b=>by omega⟩
  case round=>
   obtain⟨k,hk,rfl,hall⟩:=hrel;have HA:Hid (∀i (h:i<s.size),i<k->32<=(s[i].toNat:Int)/\(s[i].toNat:Int)<=126):=hall;clear hall;by_cases hlt:k<s.size
   ·have hlt':(k:Int)<(s.size:Int):=by omega
    have hb:=vg s[k];by_cases c1:(s[k].toNat:Int)<32
    ·obtain rfl:=NO.out (fun h=>by have:=(h.2 k hlt).1;omega);clear NO YES HA;go_wp2_with fail;go_ret;exact⟨rfl,rfl⟩
    ·by_cases c2:126<(s[k].toNat:Int)
     ·obtain rfl:=NO.out (fun h=>by have:=(h.2 k hlt).2;omega);clear NO YES HA;go_wp2_with fail;go_ret;exact⟨rfl,rfl⟩
     ·have HK:Hid (32<=(s[k].toNat:Int)/\(s[k].toNat:Int)<=126):=⟨by omega,by omega⟩;go_wp2_with fail
      go_round
      case rel=>exact⟨k+1,by omega,by go_num,fun i h b=>by
       by_cases e:i<k
       ·exact HA.out i h e
       ·obtain rfl:i=k:=by omega
        exact HK.out⟩
      case measure=>simp[intOf];omega
   ·obtain rfl:=YES.out ⟨h1,fun i h=>HA.out i h (by omega)⟩;clear NO YES HA;have hge:¬(k:Int)<(s.size:Int):=by omega
    go_wp2_with fail;go_ret;exact⟨rfl,rfl⟩
 ·obtain rfl:=NO.out (fun h=>h1 h.1);clear NO YES;have h1':200<(s.size:Int):=by omega
  go_enter func111,ntmps111;go_wp2_with fail;go_ret;exact⟨rfl,rfl⟩
end
section
open Go.RowKit
def eD (s:Bs):Value:=.string ⟨s.toArray⟩
theorem Zx (s:ByteArray):Value.string s=eD s.data.toList:=by cases s;rfl
theorem fD (s:Bs):(⟨s.toArray⟩:ByteArray).size=s.length:=by simp[ByteArray.size]
def pK (w:World)(o:Option Addr)(ats:List (Bs×Bs)):Prop:=∀i x,ats[i]? =some x->∃b off,o=some ⟨b,off,none⟩/\w.cell? (ag b (off+i*2))=some (eD x.1)/\w.cell? (ag b (off+i*2+1))=some (eD x.2)/\x.1.length<=maxLen/\x.2.length<=maxLen
def kg (w:World)(v:Value)(ats:List (Bs×Bs)):Prop:=∃o cap,v=.slice o ats.length cap/\ats.length<=cap/\cap<=maxLen/\(o=none->cap=0)/\pK w o ats
mutual
def jR (w:World)(c0 c1 c2:Value):Nd->Prop
 | .mk nm ats ks=>c0=eD nm/\nm.length<=maxLen/\kg w c1 ats/\∃o cap,c2=.slice o ks.length cap/\ks.length<=cap/\cap<=maxLen/\(o=none->cap=0)/\fE w o 0 ks
def fE (w:World)(o:Option Addr)(i:Nat):List Nd->Prop
 |[]=>True
 |k::l=>(∃b off c0 c1 c2,o=some ⟨b,off,none⟩/\w.cell? (ag b (off+i*3))=some c0/\w.cell? (ag b (off+i*3+1))=some c1/\w.cell? (ag b (off+i*3+2))=some c2/\jR w c0 c1 c2 k)/\fE w o (i+1) l
end
theorem ax {w:World}{a:Addr}{v:Value}(h:w.cell? a=some v):a.block<w.heap.size:=by
 rcases Nat.lt_or_ge a.block w.heap.size with h'|h'
 ·exact h'
 ·simp[World.cell?,Array.getElem?_eq_none h'] at h
theorem pK.below {w w':World}{o:Option Addr}{ats:List (Bs×Bs)}(h:pK w o ats)(hb:Below w.heap.size w w'):pK w' o ats:=fun i x hx=>by
 obtain⟨b,off,h1,h2,h3,h4⟩:=h i x hx;exact⟨b,off,h1,(hb.cell (ax h2)).trans h2,(hb.cell (ax h3)).trans h3,h4⟩
theorem kg.below {w w':World}{v:Value}{ats:List (Bs×Bs)}(h:kg w v ats)(hb:Below w.heap.size w w'):kg w' v ats:=by
 obtain⟨o,cap,h1,h2,h3,h5,h4⟩:=h;exact⟨o,cap,h1,h2,h3,h5,h4.below hb⟩
mutual
theorem jR.below {w w':World}(hb:Below w.heap.size w w'):∀{c0 c1 c2:Value} (n:Nd),jR w c0 c1 c2 n->jR w' c0 c1 c2 n
 |_,_,_,.mk _ _ ks,h=>by
  unfold jR at h⊢;obtain⟨h1,h2,h3,o,cap,h4,h5,h6,h8,h7⟩:=h;exact⟨h1,h2,h3.below hb,o,cap,h4,h5,h6,h8,fE.below hb ks h7⟩
theorem fE.below {w w':World}(hb:Below w.heap.size w w'):∀{o:Option Addr} {i:Nat} (l:List Nd),fE w o i l->fE w' o i l
 |_,_,[],_=>by unfold fE;trivial
 |_,_,k::l,h=>by
  unfold fE at h⊢;obtain⟨⟨b,off,c0,c1,c2,h1,h2,h3,h4,h5⟩,h6⟩:=h;exact⟨⟨b,off,c0,c1,c2,h1,(hb.cell (ax h2)).trans h2,(hb.cell (ax h3)).trans h3,(hb.cell (ax h4)).trans h4,jR.below hb k h5⟩,fE.below hb l h6⟩
end
theorem fE.get {w:World}{o:Option Addr}:∀{l:List Nd} {i j:Nat} {k:Nd},fE w o i l->l[j]? =some k->∃b off c0 c1 c2,o=some ⟨b,off,none⟩/\w.cell? (ag b (off+(i+j)*3))=some c0/\w.cell? (ag b (off+(i+j)*3+1))=some c1/\w.cell? (ag b (off+(i+j)*3+2))=some c2/\jR w c0 c1 c2 k
 |[],_,_,_,_,hk=>by simp at hk
 |k::l,i,j,k',h,hk=>by
  unfold fE at h;cases j with
  |zero=>simp at hk;subst hk;exact h.1
  |succ j=>
   have:=fE.get (i:=i+1) (j:=j) h.2 (by simpa using hk);rw[show i+1+j=i+(j+1) from by omega] at this;exact this
theorem J7 {w:World}{o:Option Addr}:∀{l:List Nd} {i:Nat},(∀j k,l[j]? =some k->∃b off c0 c1 c2,o=some ⟨b,off,none⟩/\w.cell? (ag b (off+(i+j)*3))=some c0/\w.cell? (ag b (off+(i+j)*3+1))=some c1/\w.cell? (ag b (off+(i+j)*3+2))=some c2/\jR w c0 c1 c2 k)->fE w o i l
 |[],_,_=>by unfold fE;trivial
 |k::l,i,h=>by
  unfold fE;refine⟨h 0 k rfl,J7 fun j k' hk=>?_⟩;have:=h (j+1) k' (by simpa using hk);rw[show i+(j+1)=i+1+j from by omega] at this;exact this
theorem Fz {α:Type}{P:Nat->α->Prop}:∀(n:Nat),(∀i,i<n->∃x,P i x)->∃l:List α,l.length=n/\∀i x,l[i]? =some x->P i x
 |0,_=>⟨[],rfl,fun i x h=>by simp at h⟩
 |n+1,h=>by
  obtain⟨l,hl,hP⟩:=Fz n (fun i hi=>h i (by omega));obtain⟨x,hx⟩:=h n (by omega);refine⟨l++[x],by simp[hl],fun i y hy=>?_⟩;rcases Nat.lt_or_ge i n with hi|hi
  ·rw[List.getElem?_append_left (by omega)] at hy;exact hP i y hy
  ·rw[List.getElem?_append_right (by omega)] at hy;have:i-l.length=0:=by
    rcases Nat.eq_zero_or_pos (i-l.length) with e|e
    ·exact e
    ·rw[List.getElem?_eq_none (by simp;omega)] at hy;cases hy
   rw[this] at hy;simp at hy;subst hy;obtain rfl:i=n:=by omega
   exact hx
theorem Eb {w:World}{base:Nat}{a:Addr}{cs:List Value}(h:w.cells? base a 2=some cs):∃b off c0 c1,a=⟨b,off,none⟩/\cs=[c0,c1]/\w.cell? (ag b off)=some c0/\w.cell? (ag b (off+1))=some c1:=by
 unfold World.cells? at h;split at h
 ·simp only[List.range_succ,List.range_zero,List.nil_append,List.cons_append,List.mapM_cons,List.mapM_nil] at h;cases h0:w.cell? (a.add 0) with
  |none=>simp[h0] at h
  |some c0=>
   cases h1:w.cell? (a.add 1) with
   |none=>simp[h0,h1] at h
   |some c1=>
    simp[h0,h1] at h;obtain⟨b,off,sp⟩:=a;cases sp with
    |some s=>
     simp[Addr.add,World.cell?] at h0;split at h0<;>cases h0
    |none=>exact⟨b,off,c0,c1,rfl,h.symm,by simpa[Addr.add] using h0,by simpa[Addr.add] using h1⟩
 ·cases h
theorem xY {w:World}{base:Nat}{a:Addr}{cs:List Value}(h:w.cells? base a 3=some cs):∃b off c0 c1 c2,a=⟨b,off,none⟩/\cs=[c0,c1,c2]/\w.cell? (ag b off)=some c0/\w.cell? (ag b (off+1))=some c1/\w.cell? (ag b (off+2))=some c2:=by
 unfold World.cells? at h;split at h
 ·simp only[List.range_succ,List.range_zero,List.nil_append,List.cons_append,List.mapM_cons,List.mapM_nil] at h;cases h0:w.cell? (a.add 0) with
  |none=>simp[h0] at h
  |some c0=>
   cases h1:w.cell? (a.add 1) with
   |none=>simp[h0,h1] at h
   |some c1=>
    cases h2:w.cell? (a.add 2) with
    |none=>simp[h0,h1,h2] at h
    |some c2=>
     simp[h0,h1,h2] at h;obtain⟨b,off,sp⟩:=a;cases sp with
     |some s=>
      simp[Addr.add,World.cell?] at h0;split at h0<;>cases h0
     |none=>exact⟨b,off,c0,c1,c2,rfl,h.symm,by simpa[Addr.add] using h0,by simpa[Addr.add] using h1,by simpa[Addr.add] using h2⟩
 ·cases h
end
section
open Go.RowKit
theorem QE:prog.cellsOf 65=2:=by kernel_rfl
theorem Ec:prog.cellsOf 25=3:=by kernel_rfl
theorem J8:prog.cellsOf 9=1:=by kernel_rfl
theorem Md:prog.cellsOf 22=1:=by kernel_rfl
theorem QF:prog.cellsOf 23=1:=by kernel_rfl
section
variable {H:Type}{enc:TypeId×Value->H}{w:World}{base:Nat}{spare:Nat->Bool}{held:Bool}
theorem Ap {fuel:Nat}{c:Value}{x:DataW H×List MemPlace}(h:DataW.trod enc prog w base spare held fuel 9 [c]=some x):∃s:Bs,c=eD s/\s.length<=maxLen:=by
  obtain⟨s',h1,_,hs⟩:=DataW.trod_string underlying9 h;simp at h1;subst h1;exact⟨s'.data.toList,Zx s',by rw[Ea];exact hs⟩
theorem UX {fuel:Nat}{cs:List Value}{x:DataW H×List MemPlace}(h:DataW.trod enc prog w base spare held fuel 22 cs=some x):∃v ats,cs=[v]/\kg w v ats:=by
  rcases DataW.trod_slice underlying22 h with⟨rfl,_⟩|⟨a,len,cap,elems,rest,n,_,rfl,_,_,hl,hc,hlen,hel,_⟩
  · exact⟨_,[],rfl,none,0,rfl,Nat.le_refl _,by decide,fun _=>rfl,fun i x hx=>by simp at hx⟩
  · simp only[QE] at hel
    obtain⟨l,hll,hP⟩:=Fz (α:=Bs×Bs) (P:=fun i x=>∃b off,some a=some ⟨b,off,none⟩/\w.cell? (ag b (off+i*2))=some (eD x.1)/\w.cell? (ag b (off+i*2+1))=some (eD x.2)/\x.1.length<=maxLen/\x.2.length<=maxLen) len (fun i hi=>by
      have hE:=hel i hi;obtain⟨y,hy⟩:∃y,elems[i]? =some y:=⟨elems[i],List.getElem?_eq_getElem (by omega)⟩;rw[hy] at hE;simp only[Option.bind_eq_some_iff] at hE;obtain⟨c,hc1,hc2⟩:=hE;obtain⟨b,off,c0,c1,ha,rfl,h0,h1⟩:=Eb hc1;obtain⟨y0,y1,m,_,_,f0,f1⟩:=Go.ChangeShapes.trod_struct2 underlying65 hc2;simp only[J8] at f0 f1;obtain⟨s0,rfl,l0⟩:=Ap f0;obtain⟨s1,rfl,l1⟩:=Ap f1;obtain⟨ab,ao,asp⟩:=a;have:asp=none:=by
        cases i with
        |zero=>simp[Addr.add] at ha;exact ha.2.2
        |succ i=>
          have h00:=hel 0 (by omega);obtain⟨y0,hy0⟩:∃y,elems[0]? =some y:=⟨elems[0],List.getElem?_eq_getElem (by omega)⟩;rw[hy0] at h00;simp only[Option.bind_eq_some_iff] at h00;obtain⟨_,hd1,_⟩:=h00;obtain⟨_,_,_,_,hb,_⟩:=Eb hd1;simp[Addr.add] at hb;exact hb.2.2
      subst this;have e:b=ab/\off=ao+i*2:=by
        unfold Addr.add at ha;split at ha<;>simp at ha<;>exact⟨ha.1.symm,by omega⟩
      obtain⟨rfl,rfl⟩:=e;exact⟨(s0,s1),_,ao,rfl,h0,h1,l0,l1⟩)
    exact⟨_,l,rfl,some a,cap,by rw[hll],by omega,hc,(fun e=>nomatch e),hP⟩
theorem Me {t:TypeId}{f0 f1 f2:Field}{fuel:Nat}{cs:List Value}{x:DataW H×List MemPlace}{P:Program}(ht:P.underlying t=some (.struct #[f0,f1,f2]))(h:DataW.trod enc P w base spare held fuel t cs=some x):
    ∃y0 y1 y2 n,fuel=n+1/\cs.length=P.cellsOf t/\DataW.trod enc P w base spare held n f0.type ((cs.drop f0.offset).take (P.cellsOf f0.type))=some y0/\
      DataW.trod enc P w base spare held n f1.type ((cs.drop f1.offset).take (P.cellsOf f1.type))=some y1/\DataW.trod enc P w base spare held n f2.type ((cs.drop f2.offset).take (P.cellsOf f2.type))=some y2:=by
  obtain⟨xs,n,hn,rfl,hl,hlen,hf⟩:=DataW.trod_struct ht h
  match xs,hlen with
  |[y0,y1,y2],_=>exact⟨y0,y1,y2,n,hn,hl,by simpa using hf 0 f0 rfl,by simpa using hf 1 f1 rfl,by simpa using hf 2 f2 rfl⟩
theorem OA:∀(fuel:Nat) {cs:List Value} {x:DataW H×List MemPlace},DataW.trod enc prog w base spare held fuel 25 cs=some x->∃c0 c1 c2 n,cs=[c0,c1,c2]/\jR w c0 c1 c2 n
  |fuel,cs,x,h=>by
    obtain⟨y0,y1,y2,m,rfl,hcl,f0,f1,f2⟩:=Me underlying25 h;rw[Ec] at hcl;obtain⟨c0,c1,c2,rfl⟩:∃c0 c1 c2,cs=[c0,c1,c2]:=by
      rcases cs with _|⟨c0,_|⟨c1,_|⟨c2,_|⟨c3,cs⟩⟩⟩⟩
      all_goals first|exact⟨_,_,_,rfl⟩|simp at hcl
    simp only[J8,Md,QF] at f0 f1 f2;obtain⟨s0,rfl,l0⟩:=Ap f0;obtain⟨v1,ats,e1,ha⟩:=UX f1;simp at e1;subst e1
    suffices hk:∃ks:List Nd,∃o cap,c2=.slice o ks.length cap/\ks.length<=cap/\cap<=maxLen/\(o=none->cap=0)/\fE w o 0 ks by
      obtain⟨ks,hk⟩:=hk;exact⟨_,_,_,.mk s0 ats ks,rfl,by unfold jR;exact⟨rfl,l0,ha,hk⟩⟩
    rcases DataW.trod_slice underlying23 f2 with⟨e2,_⟩|⟨a,len,cap,elems,rest,q,hq,e2,_,_,hl,hc,hlen,hel,_⟩
    · simp at e2
      subst e2;exact⟨[],none,0,rfl,Nat.le_refl _,by decide,fun _=>rfl,by unfold fE;trivial⟩
    · simp at e2
      subst e2;simp only[Ec] at hel;have sp:0<len->a.spot=none:=fun h0=>by
        have h00:=hel 0 h0;obtain⟨y0,hy0⟩:∃y,elems[0]? =some y:=⟨elems[0],List.getElem?_eq_getElem (by omega)⟩;rw[hy0] at h00;simp only[Option.bind_eq_some_iff] at h00;obtain⟨_,hd1,_⟩:=h00;obtain⟨_,_,_,_,_,hb,_⟩:=xY hd1;simp[Addr.add] at hb;rw[hb]
      obtain⟨l,hll,hP⟩:=Fz (α:=Nd) (P:=fun i k=>∃b off c0 c1 c2,some a=some ⟨b,off,none⟩/\w.cell? (ag b (off+i*3))=some c0/\w.cell? (ag b (off+i*3+1))=some c1/\w.cell? (ag b (off+i*3+2))=some c2/\jR w c0 c1 c2 k) len (fun i hi=>by
        have hE:=hel i hi;obtain⟨y,hy⟩:∃y,elems[i]? =some y:=⟨elems[i],List.getElem?_eq_getElem (by omega)⟩;rw[hy] at hE;simp only[Option.bind_eq_some_iff] at hE;obtain⟨c,hc1,hc2⟩:=hE;obtain⟨b,off,d0,d1,d2,hb,rfl,h0,h1,h2⟩:=xY hc1;obtain⟨e0,e1,e2,k,he,hk⟩:=OA q hc2;simp at he;obtain⟨rfl,rfl,rfl⟩:=he;have hs:=sp (by omega);obtain⟨ab,ao,asp⟩:=a;simp at hs;subst hs;have e:b=ab/\off=ao+i*3:=by
          unfold Addr.add at hb;split at hb<;>simp at hb<;>exact⟨hb.1.symm,by omega⟩
        obtain⟨rfl,rfl⟩:=e;exact⟨k,_,ao,d0,d1,d2,rfl,h0,h1,h2,hk⟩)
      exact⟨l,some a,cap,by rw[hll],by omega,hc,(fun e=>nomatch e),J7 (fun j k hk=>by rw[show 0+j=j from by omega];exact hP j k hk)⟩
  termination_by fuel=>fuel
  decreasing_by omega
end
end
section
open Go.RowKit
set_option maxHeartbeats 2000000
theorem aQ:maxLen=9223372036854775807:=by decide
def atV (x:Bs×Bs):Value:=.agg #[eD x.1,eD x.2]
theorem az {W A w:World}(h:Below W.heap.size W A)(hb:Below A.heap.size A w):Below W.heap.size W w:=h.trans (hb.mono h.size)
theorem bO {W:World}{a:Addr}{v:Value}(o:Obj)(h:W.cell? a=some v):(W.alloc o).cell? a=some v:=(((Below.refl W.heap.size W).alloc eU o).cell (ax h)).trans h
theorem FE (x:Bs×Bs)(nm:Bs)(B:Nat)(W:World)(hB:W.cell? (ag B 0)=some (eD nm)):
  ak 165 #[atV x,aj B] W fun e w'=>e=.returned (.bool (x.1==nm))/\Below W.heap.size W w':=by
 have hB':=fun o=>bO o hB;unfold atV eD at*;go_enter func165,ntmps165;go_wp2;go_ret;exact⟨rfl,(Below.refl _ W).alloc eU _⟩
def fI (nm:Bs):Nat->List (Bs×Bs)->Int
 |_,[]=> -1
 |k,x::r=>if(x.1==nm)=true then k else fI nm (k+1) r
theorem UY (nm:Bs):∀(l:List (Bs×Bs)) (k:Nat),decide (0<=fI nm k l)=l.any (fun x=>x.1==nm)
 |[],_=>rfl
 |x::r,k=>by
  unfold fI;cases hx:(x.1==nm) with
  |true=>simp[hx]
  |false=>simp only[Bool.false_eq_true,if_false,List.any_cons,hx,Bool.false_or];exact UY nm r (k+1)
theorem drop_at {α:Type}{l:List α}{k:Nat}(h:k<l.length):∃x,l[k]? =some x/\l.drop k=x::l.drop (k+1):=⟨l[k],List.getElem?_eq_getElem h,(List.getElem_cons_drop h).symm⟩
theorem CB (ats:List (Bs×Bs))(nm:Bs)(B:Nat)(v:Value)(W:World)(h:kg W v ats)(hB:W.cell? (ag B 0)=some (eD nm)):
  ak 67 #[v,.func (.func 165) #[] #[aj B]] W fun e w'=>e=.returned (aa (fI nm 0 ats))/\Below W.heap.size W w':=by
 obtain⟨o,cap,rfl,h1,h2,h3,h4⟩:=h;have hlen:(ats.length:Int)<=9223372036854775807:=by rw[aQ] at h2;omega
 by_cases h0:ats.length=0
 ·obtain rfl:ats=[]:=List.length_eq_zero_iff.1 h0;clear h4;go_enter func67,ntmps67;go_wp2_with fail
  go_loopw [8] (fun y wr=>y=aa 0/\wr=W) (fun _ _=>0)
  case atStart=>exact⟨rfl,rfl⟩
  case round=>
   obtain⟨rfl,rfl⟩:=hrel;go_wp2_with fail;go_ret;exact⟨rfl,Below.refl _ _⟩
 ·obtain⟨x0,hx0, -⟩:=drop_at (l:=ats) (k:=0) (by omega);obtain⟨b,off,rfl, -⟩:=h4 0 x0 hx0;have H4:Hid (pK W (some ⟨b,off,none⟩) ats):=h4;clear h4 hx0 h3 x0;have hcap:(ats.length:Int)<=(cap:Int):=by omega
  go_enter func67,ntmps67;go_wp2_with fail
  go_loopw [8] (fun y wr=>∃k:Nat,k<=ats.length/\y=aa k/\fI nm 0 ats=fI nm k (ats.drop k)/\Below W.heap.size W wr) (fun y _=>ats.length-(intOf y).toNat)
  case atStart=>exact⟨0,Nat.zero_le _,rfl,rfl,Below.refl _ _⟩
  case round=>
   obtain⟨k,hk,rfl,hf,hb⟩:=hrel;by_cases hlt:k<ats.length
   ·have hlt':(k:Int)<(ats.length:Int):=by omega
    obtain⟨x,hx,hd⟩:=drop_at hlt;obtain⟨b',off',e,c0,c1, -⟩:=H4.out k x hx;simp only[Option.some.injEq,Addr.mk.injEq,and_true] at e;obtain⟨rfl,rfl⟩:=e;have k0:=(hb.cell (ax c0)).trans c0;have k1:=(hb.cell (ax c1)).trans c1;have hB1:=(hb.cell (ax hB)).trans hB;have HS:=FE x nm B wr hB1;rw[hd] at hf;clear c0 c1 hx hd;unfold eD at k0 k1;cases hs:(x.1==nm) with
    |true=>
     rw[hs] at HS;have hf':Hid (fI nm 0 ats=k):=(by rw[hf];unfold fI;rw[if_pos hs]:fI nm 0 ats=k);clear hf hs;go_wp2_with(go_at_call 165;refine HS.mono ?_;rintro e w1 ⟨rfl,hb1⟩);go_ret;exact⟨by rw[hf'.out];rfl,az hb hb1⟩
    |false=>
     rw[hs] at HS;have hf0:fI nm k (x::ats.drop (k+1))=fI nm (k+1) (ats.drop (k+1)):=by rw[fI,if_neg (by rw[hs];simp)]
     have hf':Hid (fI nm 0 ats=fI nm (k+1) (ats.drop (k+1))):=hf.trans hf0;clear hf0;clear hf hs;go_wp2_with(go_at_call 165;refine HS.mono ?_;rintro e w1 ⟨rfl,hb1⟩)
     go_roundw
     case rel=>exact⟨k+1,by omega,by go_num,hf'.out,az hb hb1⟩
     case measure=>simp[intOf];omega
   ·obtain rfl:k=ats.length:=by omega
    have hf':Hid (fI nm 0 ats= -1):=(by rw[hf,List.drop_length];rfl:fI nm 0 ats= -1);clear hf;go_wp2_with fail;go_ret;exact⟨by rw[hf'.out];rfl,hb⟩
theorem wV (ats:List (Bs×Bs))(nm:Bs)(B:Nat)(v:Value)(W:World)(h:kg W v ats)(hB:W.cell? (ag B 0)=some (eD nm)):
  ak 164 #[v,.func (.func 165) #[] #[aj B]] W fun e w'=>e=.returned (.bool (ats.any (fun x=>x.1==nm)))/\Below W.heap.size W w':=by
 have HI:=CB ats nm B v W h hB;rw[<- UY nm ats 0];generalize fI nm 0 ats=z at HI⊢;go_enter func164,ntmps164;go_wp2_with(go_at_call 67;refine HI.mono ?_;rintro e w1 ⟨rfl,hb1⟩);go_ret;exact⟨rfl,hb1⟩
end
section
open Go.RowKit
set_option maxHeartbeats 2000000
structure CE (E:Nat->Addr)(w:World):Prop where
 c4:w.cell? (ag 4 0)=some (.iface 390 (.pointer (some (E 4))))
 c6:w.cell? (ag 9 0)=some (.iface 390 (.pointer (some (E 6))))
 c7:w.cell? (ag 2 0)=some (.iface 390 (.pointer (some (E 7))))
 c8:w.cell? (ag 7 0)=some (.iface 390 (.pointer (some (E 8))))
 c10:w.cell? (ag 8 0)=some (.iface 390 (.pointer (some (E 10))))
theorem CE.below {E:Nat->Addr}{w w':World}(h:CE E w)(hb:Below w.heap.size w w'):CE E w' where
 c4:=(hb.cell (ax h.c4)).trans h.c4
 c6:=(hb.cell (ax h.c6)).trans h.c6
 c7:=(hb.cell (ax h.c7)).trans h.c7
 c8:=(hb.cell (ax h.c8)).trans h.c8
 c10:=(hb.cell (ax h.c10)).trans h.c10
structure ME (E:Nat->Addr)(w:World):Prop where
 c2:w.cell? (ag 0 0)=some (.iface 390 (.pointer (some (E 2))))
 c4:w.cell? (ag 4 0)=some (.iface 390 (.pointer (some (E 4))))
 c6:w.cell? (ag 9 0)=some (.iface 390 (.pointer (some (E 6))))
 c7:w.cell? (ag 2 0)=some (.iface 390 (.pointer (some (E 7))))
 c8:w.cell? (ag 7 0)=some (.iface 390 (.pointer (some (E 8))))
 c10:w.cell? (ag 8 0)=some (.iface 390 (.pointer (some (E 10))))
theorem ME.below {E:Nat->Addr}{w w':World}(h:ME E w)(hb:Below w.heap.size w w'):ME E w' where
 c2:=(hb.cell (ax h.c2)).trans h.c2
 c4:=(hb.cell (ax h.c4)).trans h.c4
 c6:=(hb.cell (ax h.c6)).trans h.c6
 c7:=(hb.cell (ax h.c7)).trans h.c7
 c8:=(hb.cell (ax h.c8)).trans h.c8
 c10:=(hb.cell (ax h.c10)).trans h.c10
theorem ME.ce {E:Nat->Addr}{w:World}(h:ME E w):CE E w:=⟨h.c4,h.c6,h.c7,h.c8,h.c10⟩
def QG (E:Nat->Addr)(c:Nat):Value:=if c=0 then .nilIface else .iface 390 (.pointer (some (E c)))
theorem rQ (E:Nat->Addr):QG E 0=.nilIface:=rfl
theorem iE (E:Nat->Addr){c:Nat}(h:c≠0):QG E c=.iface 390 (.pointer (some (E c))):=by unfold QG;rw[if_neg h]
def Mf (ahead:List (Bs×Bs))(a:Bs×Bs):Nat:=if fo a.1=true then(if ahead.any (fun x=>x.1==a.1)=true then 6 else if isVal a.2=true then 0 else 10) else 4
theorem aW (W:World)(o:Obj):Below W.heap.size W (W.alloc o):=(Below.refl W.heap.size W).alloc eU o
theorem gp (W:World)(cs:Array Value)(t:TypeId)(i:Nat)(v:Value)(h:cs[i]? =some v):(W.alloc (.cells cs t)).cell? ⟨W.heap.size,i,none⟩=some v:=by
 have e:(W.alloc (.cells cs t)).heap[W.heap.size]? =some (.cells cs t):=by show(W.heap.push (.cells cs t))[W.heap.size]? =_;simp
 unfold World.cell?;simp only[e];simpa using h
theorem tq (E:Nat->Addr)(a:Bs×Bs)(ats:List (Bs×Bs))(v:Value)(W:World)(hE:CE E W)(h:kg W v ats)(l1:a.1.length<=maxLen)(l2:a.2.length<=maxLen):
  ak 120 #[atV a,v] W fun e w'=>e=.returned (QG E (Mf ats a))/\Below W.heap.size W w':=by
 have b0:=aW W (.cells #[.string ⟨a.1.toArray⟩,.string ⟨a.2.toArray⟩] 65);have n0:=gp W #[.string ⟨a.1.toArray⟩,.string ⟨a.2.toArray⟩] 65 0 _ rfl;have n1:=gp W #[.string ⟨a.1.toArray⟩,.string ⟨a.2.toArray⟩] 65 1 _ rfl;have HN:=kZ ⟨a.1.toArray⟩ (by rw[fD,<- aQ];exact l1) (W.alloc (.cells #[.string ⟨a.1.toArray⟩,.string ⟨a.2.toArray⟩] 65));have HC:=wV ats a.1 W.heap.size v _ (h.below b0) n0;have HV:=fun V=>xX ⟨a.2.toArray⟩ (by rw[fD,<- aQ];exact l2) V;have hE1:=hE.below b0;obtain⟨o,cap,rfl,_,_,_,_⟩:=h;have e4:=hE1.c4;unfold Mf;unfold atV eD;cases hn:fo a.1 with
 |false=>
  rw[show fo (⟨a.1.toArray⟩:ByteArray).data.toList=false from hn] at HN;rw[if_neg (by simp),iE E (by decide)];clear HC HV n1;go_enter func120,ntmps120;go_wp2_with(go_at_call 102;refine HN.mono ?_;rintro e w1 ⟨rfl,rfl⟩);go_ret;exact⟨rfl,b0⟩
 |true=>
  rw[show fo (⟨a.1.toArray⟩:ByteArray).data.toList=true from hn] at HN;rw[if_pos rfl];cases ha:ats.any (fun x=>x.1==a.1) with
  |true=>
   rw[ha] at HC;rw[if_pos rfl,iE E (by decide)];clear HV n1 e4;go_enter func120,ntmps120;go_wp2_with(first|(go_at_call 102;refine HN.mono ?_;rintro e w1 ⟨rfl,rfl⟩)|(go_at_call 164;refine HC.mono ?_;rintro e w2 ⟨rfl,hb2⟩;have e6:=(hE1.below hb2).c6));go_ret;exact⟨rfl,az b0 hb2⟩
  |false=>
   rw[ha] at HC;rw[if_neg (by simp)];cases hv:isVal a.2 with
   |true=>
    rw[show isVal (⟨a.2.toArray⟩:ByteArray).data.toList=true from hv] at HV;rw[if_pos rfl,rQ];clear e4;go_enter func120,ntmps120;go_wp2_with(first|(go_at_call 102;refine HN.mono ?_;rintro e w1 ⟨rfl,rfl⟩)|(go_at_call 164;refine HC.mono ?_;rintro e w2 ⟨rfl,hb2⟩;have k1:=(hb2.cell (ax n1)).trans n1)|(go_at_call 111;refine(HV _).mono ?_;rintro e w3 ⟨rfl,rfl⟩));go_ret;exact⟨rfl,az b0 hb2⟩
   |false=>
    rw[show isVal (⟨a.2.toArray⟩:ByteArray).data.toList=false from hv] at HV;rw[if_neg (by simp),iE E (by decide)];clear e4;go_enter func120,ntmps120;go_wp2_with(first|(go_at_call 102;refine HN.mono ?_;rintro e w1 ⟨rfl,rfl⟩)|(go_at_call 164;refine HC.mono ?_;rintro e w2 ⟨rfl,hb2⟩;have k1:=(hb2.cell (ax n1)).trans n1;have e10:=(hE1.below hb2).c10)|(go_at_call 111;refine(HV _).mono ?_;rintro e w3 ⟨rfl,rfl⟩));go_ret;exact⟨rfl,az b0 hb2⟩
end
section
open Go.RowKit
set_option maxHeartbeats 4000000
set_option maxRecDepth 20000
def yV:List (Bs×Bs)->List (Bs×Bs)->Nat
 |_,[]=>0
 |pre,a::r=>if Mf pre a=0 then yV (pre++[a]) r else Mf pre a
def ck1 (nm:Bs)(ats:List (Bs×Bs))(deep ahead:Nat):Nat:=if 10<deep then 8 else if 100<=ahead then 7 else if fo nm=true then(if 12<ats.length then 7 else yV [] ats) else 4
theorem UZ {ats:List (Bs×Bs)}{k:Nat}{x:Bs×Bs}(hx:ats[k]? =some x)(hd:ats.drop k=x::ats.drop (k+1))(h:Mf (ats.take k) x=0):yV (ats.take k) (ats.drop k)=yV (ats.take (k+1)) (ats.drop (k+1)):=by
 rw[hd,yV,if_pos h,List.take_add_one,hx];rfl
theorem kg.take {w:World}{b off cap:Nat}{ats:List (Bs×Bs)}(k:Nat)(hk:k<=ats.length)(hc:ats.length<=cap)(hm:cap<=maxLen)(h:pK w (some ⟨b,off,none⟩) ats):kg w (.slice (some ⟨b,off,none⟩) k cap) (ats.take k):=
 ⟨some ⟨b,off,none⟩,cap,by rw[List.length_take,Nat.min_eq_left hk],by rw[List.length_take];omega,hm,(fun e=>nomatch e),fun i x hx=>h i x (by rw[List.getElem?_take] at hx;split at hx;exact hx;cases hx)⟩
theorem QH (E:Nat->Addr)(nm:Bs)(ats:List (Bs×Bs))(nk dB cap b off:Nat)(ok:Option Addr)(deep ahead:Nat)(W:World)(hE:CE E W)(h4:pK W (some ⟨b,off,none⟩) ats)(hc:ats.length<=cap)(hm:cap<=maxLen)(hl:nm.length<=maxLen)
  (hd:deep<=10) (ha:ahead<100) (hn:fo nm=true) (h12:ats.length<=12):
  ak 75 #[.agg #[eD nm,.slice (some ⟨b,off,none⟩) ats.length cap,.slice ok nk dB],aa deep,aa ahead] W fun e w'=>e=.returned (QG E (yV [] ats))/\Below W.heap.size W w':=by
 have b0:=aW W (.cells #[.string ⟨nm.toArray⟩,.slice (some ⟨b,off,none⟩) ats.length cap,.slice ok nk dB] 25);have n0:=gp W #[.string ⟨nm.toArray⟩,.slice (some ⟨b,off,none⟩) ats.length cap,.slice ok nk dB] 25 0 (.string ⟨nm.toArray⟩) rfl;have n1:=gp W #[.string ⟨nm.toArray⟩,.slice (some ⟨b,off,none⟩) ats.length cap,.slice ok nk dB] 25 1 (.slice (some ⟨b,off,none⟩) ats.length cap) rfl;have HN:=kZ ⟨nm.toArray⟩ (by rw[fD,<- aQ];exact hl) (W.alloc (.cells #[.string ⟨nm.toArray⟩,.slice (some ⟨b,off,none⟩) ats.length cap,.slice ok nk dB] 25));rw[show fo (⟨nm.toArray⟩:ByteArray).data.toList=true from hn] at HN;have hd':(deep:Int)<=10:=by omega
 have ha':(ahead:Int)<100:=by omega
 have aha:(ats.length:Int)<=12:=by omega
 have hm':(cap:Int)<=9223372036854775807:=by rw[aQ] at hm;omega
 have H4:Hid (pK W (some ⟨b,off,none⟩) ats):=h4;have HE:Hid (CE E W):=hE;clear h4 hE hn;unfold eD;go_enter func75,ntmps75;go_wp2_with(go_at_call 102;refine HN.mono ?_;rintro e w1 ⟨rfl,rfl⟩);clear HN;obtain⟨W1,hW1⟩:∃V,W.alloc (.cells #[.string ⟨nm.toArray⟩,.slice (some ⟨b,off,none⟩) ats.length cap,.slice ok nk dB] 25)=V:=⟨_,rfl⟩;rw[hW1] at b0 n0 n1⊢;clear hW1
 go_loopw [33] (fun y wr=>∃k:Nat,k<=ats.length/\y=aa k/\yV [] ats=yV (ats.take k) (ats.drop k)/\Below W1.heap.size W1 wr) (fun y _=>ats.length-(intOf y).toNat)
 case atStart=>exact⟨0,Nat.zero_le _,rfl,rfl,Below.refl _ _⟩
 case round=>
  obtain⟨k,hk,rfl,hf,hb⟩:=hrel;have HF:Hid (yV [] ats=yV (ats.take k) (ats.drop k)):=hf;clear hf;by_cases hlt:k<ats.length
  ·have hlt':(k:Int)<(ats.length:Int):=by omega
   have hkc:(k:Int)<=(cap:Int):=by omega
   obtain⟨x,hx,hdr⟩:=drop_at hlt;obtain⟨b',off',e,c0,c1,l1,l2⟩:=H4.out k x hx;simp only[Option.some.injEq,Addr.mk.injEq,and_true] at e;obtain⟨rfl,rfl⟩:=e;have bw:=az b0 hb;have k0:=(bw.cell (ax c0)).trans c0;have k1:=(bw.cell (ax c1)).trans c1;have m1:=(hb.cell (ax n1)).trans n1;clear c0 c1;unfold eD at k0 k1;have HX:Hid (ats[k]? =some x/\ats.drop k=x::ats.drop (k+1)):=⟨hx,hdr⟩;clear hx hdr;have q0:=gp wr #[.string ⟨x.1.toArray⟩,.string ⟨x.2.toArray⟩] 65 0 (.string ⟨x.1.toArray⟩) rfl;have q1:=gp wr #[.string ⟨x.1.toArray⟩,.string ⟨x.2.toArray⟩] 65 1 (.string ⟨x.2.toArray⟩) rfl;have q2:=bO (.cells #[.string ⟨x.1.toArray⟩,.string ⟨x.2.toArray⟩] 65) m1;have bU:=aW wr (.cells #[.string ⟨x.1.toArray⟩,.string ⟨x.2.toArray⟩] 65);go_upto_region 12 with fail;obtain⟨U,hU⟩:∃V,wr.alloc (.cells #[.string ⟨x.1.toArray⟩,.string ⟨x.2.toArray⟩] 65)=V:=⟨_,rfl⟩;rw[hU] at q0 q1 q2 bU⊢;clear hU k0 k1 m1;have hl1:=l1;have hl2:=l2;by_cases hz:Mf (ats.take k) x=0
   ·have qA:∀d os,ak 120 #[.agg #[.string ⟨x.1.toArray⟩,.string ⟨x.2.toArray⟩],.slice (some ⟨b,off,none⟩) k cap] (Go.Sort.grow (redrawn U d) os) fun e w''=>e=.returned .nilIface/\∃p:Regrown,w''=Go.Sort.grow (redrawn U p.d) p.os:=fun d os=>by
     have:=tq E x (ats.take k) (.slice (some ⟨b,off,none⟩) k cap) (Go.Sort.grow (redrawn U d) os) (HE.out.below (az (az bw bU) (below_regrown U d os))) (kg.take k hk hc hm (H4.out.below (az (az bw bU) (below_regrown U d os)))) hl1 hl2;rw[hz,rQ] at this;exact Calls.regrown_of this
    have HZ:Hid (yV [] ats=yV (ats.take (k+1)) (ats.drop (k+1))):=HF.out.trans (UZ HX.out.1 HX.out.2 hz);clear hz l1 l2 hl1 hl2;have r0:=cell_regrown q0;have r1:=cell_regrown q1;have r2:=cell_regrown q2;refine wp_region_quiet_below (by kernel_rfl) (by kernel_rfl) ?_
    repeat(quiet_step (first|(go_at_call 120;exact qA _ _)))
    refine wpQuiet_nil ?_;intro _ hw';obtain⟨pq,hw''⟩:=hw';subst hw'';clear r0 r1 r2 qA q0 q1 q2;have xK:=az (az hb bU) (below_regrown U pq.d pq.os);generalize Go.Sort.grow (redrawn U pq.d) pq.os=V at xK⊢;go_wp2_with fail
    go_roundw
    case rel=>exact⟨k+1,by omega,by go_num,HZ.out,xK⟩
    case measure=>simp[intOf];omega
   ·have qA:∀d os,ak 120 #[.agg #[.string ⟨x.1.toArray⟩,.string ⟨x.2.toArray⟩],.slice (some ⟨b,off,none⟩) k cap] (Go.Sort.grow (redrawn U d) os) fun e w''=>e=.returned (.iface 390 (.pointer (some (E (Mf (ats.take k) x)))))/\∃p:Regrown,w''=Go.Sort.grow (redrawn U p.d) p.os:=fun d os=>by
     have:=tq E x (ats.take k) (.slice (some ⟨b,off,none⟩) k cap) (Go.Sort.grow (redrawn U d) os) (HE.out.below (az (az bw bU) (below_regrown U d os))) (kg.take k hk hc hm (H4.out.below (az (az bw bU) (below_regrown U d os)))) hl1 hl2;rw[iE E hz] at this;exact Calls.regrown_of this
    have HZ:Hid (yV [] ats=Mf (ats.take k) x):=(by rw[HF.out,HX.out.2,yV,if_neg hz]:yV [] ats=Mf (ats.take k) x);have HP:Hid (Mf (ats.take k) x≠0):=hz;clear hz l1 l2 hl1 hl2;generalize Mf (ats.take k) x=z at qA HZ HP;have r0:=cell_regrown q0;have r1:=cell_regrown q1;have r2:=cell_regrown q2;refine wp_region_quiet_below (by kernel_rfl) (by kernel_rfl) ?_
    repeat(quiet_step (first|(go_at_call 120;exact qA _ _)))
    refine wpQuiet_nil ?_;intro _ hw';obtain⟨pq,hw''⟩:=hw';subst hw'';clear r0 r1 r2 qA q0 q1 q2;have xK:=az (az bw bU) (below_regrown U pq.d pq.os);generalize Go.Sort.grow (redrawn U pq.d) pq.os=V at xK⊢;go_wp2_with fail;go_ret;exact⟨by rw[HZ.out,iE E HP.out];rfl,xK⟩
  ·obtain rfl:k=ats.length:=by omega
   have hz:Hid (yV [] ats=0):=(by rw[HF.out,List.drop_length];rfl:yV [] ats=0);go_wp2_with fail;go_ret;exact⟨by rw[hz.out];rfl,az b0 hb⟩
end
section
open Go.RowKit
set_option maxHeartbeats 4000000
set_option maxRecDepth 20000
theorem FH (E:Nat->Addr)(nm:Bs)(ats:List (Bs×Bs))(ks:List Nd)(c1 c2:Value)(deep ahead:Nat)(W:World)(hE:CE E W)(h:jR W (eD nm) c1 c2 (.mk nm ats ks))(hdp:deep<=1000)(hah:ahead<=1000):
  ak 75 #[.agg #[eD nm,c1,c2],aa deep,aa ahead] W fun e w'=>e=.returned (QG E (ck1 nm ats deep ahead))/\Below W.heap.size W w':=by
 unfold jR at h;obtain⟨-,hl,⟨o,cap,rfl,hc,hm,h0,h4⟩,ok,dB,rfl, -⟩:=h;generalize ks.length=nk;have b0:=aW W (.cells #[.string ⟨nm.toArray⟩,.slice o ats.length cap,.slice ok nk dB] 25);have n0:=gp W #[.string ⟨nm.toArray⟩,.slice o ats.length cap,.slice ok nk dB] 25 0 (.string ⟨nm.toArray⟩) rfl;have n1:=gp W #[.string ⟨nm.toArray⟩,.slice o ats.length cap,.slice ok nk dB] 25 1 (.slice o ats.length cap) rfl;have HN:=kZ ⟨nm.toArray⟩ (by rw[fD,<- aQ];exact hl) (W.alloc (.cells #[.string ⟨nm.toArray⟩,.slice o ats.length cap,.slice ok nk dB] 25));have hE1:=hE.below b0;have a6M:(deep:Int)<=1000:=by omega
 have ahb:(ahead:Int)<=1000:=by omega
 have hm':(ats.length:Int)<=9223372036854775807:=by rw[aQ] at hm;omega
 unfold ck1;by_cases g1:10<deep
 ·rw[if_pos g1,iE E (by decide)];have g1':10<(deep:Int):=by omega
  have e8:=hE1.c8;clear HN n1 n0;unfold eD;go_enter func75,ntmps75;go_wp2_with fail;go_ret;exact⟨rfl,b0⟩
 ·rw[if_neg g1];have g1':(deep:Int)<=10:=by omega
  by_cases g2:100<=ahead
  ·rw[if_pos g2,iE E (by decide)];have g2':100<=(ahead:Int):=by omega
   have e7:=hE1.c7;clear HN n1 n0;unfold eD;go_enter func75,ntmps75;go_wp2_with fail;go_ret;exact⟨rfl,b0⟩
  ·rw[if_neg g2];have g2':(ahead:Int)<100:=by omega
   cases hn:fo nm with
   |false=>
    rw[show fo (⟨nm.toArray⟩:ByteArray).data.toList=false from hn] at HN;rw[if_neg (by simp),iE E (by decide)];have e4:=hE1.c4;clear n1;unfold eD;go_enter func75,ntmps75;go_wp2_with(go_at_call 102;refine HN.mono ?_;rintro e w1 ⟨rfl,rfl⟩);go_ret;exact⟨rfl,b0⟩
   |true=>
    rw[show fo (⟨nm.toArray⟩:ByteArray).data.toList=true from hn] at HN;rw[if_pos rfl];by_cases g3:12<ats.length
    ·rw[if_pos g3,iE E (by decide)];have g3':12<(ats.length:Int):=by omega
     have e7:=hE1.c7;unfold eD;go_enter func75,ntmps75;go_wp2_with(go_at_call 102;refine HN.mono ?_;rintro e w1 ⟨rfl,rfl⟩);go_ret;exact⟨rfl,b0⟩
    ·rw[if_neg g3];by_cases hz:ats.length=0
     ·obtain rfl:ats=[]:=List.length_eq_zero_iff.1 hz;rw[show yV [] []=0 from rfl,rQ];clear h4 hm';unfold eD;go_enter func75,ntmps75;go_wp2_with(go_at_call 102;refine HN.mono ?_;rintro e w1 ⟨rfl,rfl⟩)
      go_loopw [33] (fun y wr=>y=aa 0/\Below W.heap.size W wr) (fun _ _=>0)
      case atStart=>exact⟨rfl,b0⟩
      case round=>
       obtain⟨rfl,hb⟩:=hrel;go_wp2_with fail;go_ret;exact⟨rfl,hb⟩
     ·obtain⟨x0,hx0, -⟩:=drop_at (l:=ats) (k:=0) (by omega);obtain⟨b,off,rfl, -⟩:=h4 0 x0 hx0;exact QH E nm ats nk dB cap b off ok deep ahead W hE h4 hc hm hl (by omega) (by omega) hn (by omega)
end
section
open Go.RowKit
set_option maxHeartbeats 8000000
set_option maxRecDepth 20000
structure aY (b:Nat)(W w:World):Prop where
 os:w.os=W.os
 tape:w.tape=W.tape
 output:w.output=W.output
 size:W.heap.size<=w.heap.size
 block:∀k,k<W.heap.size->k≠b->w.heap[k]? =W.heap[k]?
theorem aY.trans {b:Nat}{A B C:World}(h:aY b A B)(k:aY b B C):aY b A C:=
 ⟨k.os.trans h.os,k.tape.trans h.tape,k.output.trans h.output,Nat.le_trans h.size k.size,fun i hi hb=>(k.block i (Nat.lt_of_lt_of_le hi h.size) hb).trans (h.block i hi hb)⟩
theorem aY.of_below {b:Nat}{A B:World}(h:Below A.heap.size A B):aY b A B:=⟨h.os,h.tape,h.output,h.size,fun i hi _=>h.block i hi⟩
theorem aY.below {b n:Nat}{A B:World}(h:aY b A B)(hb:n<=b)(hn:n<=A.heap.size):Below n A B:=⟨h.os,h.tape,h.output,h.size,fun i hi=>h.block i (by omega) (by omega)⟩
theorem aY.setCell {b:Nat}{A B:World}(h:aY b A B)(v:Value):aY b A (B.setCell ⟨b,0,none⟩ v):=by
 have hs:=(Below.refl b B).setCell (p:=⟨b,0,none⟩) eU v;refine⟨hs.os.trans h.os,hs.tape.trans h.tape,hs.output.trans h.output,Nat.le_trans h.size hs.size,fun i hi hb=>?_⟩;exact(Below.heap_setCell _ _ _ i hb).trans (h.block i hi hb)
theorem aY.cell {b:Nat}{A B:World}(h:aY b A B){p:Addr}{v:Value}(hp:A.cell? p=some v)(hb:p.block≠b):B.cell? p=some v:=by
 rw[<- hp];unfold World.cell?;rw[h.block p.block (ax hp) hb]
theorem OB {B:Nat}{w w':World}{p:Addr}(hb:Below B w w')(hp:p.block<B):w'.frozen? p=w.frozen? p:=by
 unfold World.frozen?;rw[hb.block _ hp]
theorem aaP {w:World}{b:Nat}{u v:Value}(h:w.cell? (ag b 0)=some u):(w.setCell ⟨b,0,none⟩ v).cell? (ag b 0)=some v:=by
 exact World.cell?_setCell_same w _ v h
theorem QI {w:World}{b:Nat}{v:Value}(h:w.frozen? ⟨b,0,none⟩=false):(w.setCell ⟨b,0,none⟩ v).frozen? ⟨b,0,none⟩=false:=by
 have:=World.frozen?_setCell w ⟨b,0,none⟩ ⟨b,0,none⟩ v;rw[this];exact h
theorem Nd.ind {P:Nd->Prop}(h:∀nm ats ks,(∀k∈ks,P k)->P (.mk nm ats ks)):∀n,P n:=by
 suffices H:(∀n,P n) by exact H
 intro n;exact Nd.rec (motive_1:=P) (motive_2:=fun l=>∀k∈l,P k) (fun nm ats ks ih=>h nm ats ks ih) (by simp) (fun k l hk hl=>by
  intro j hj;rcases List.mem_cons.1 hj with rfl|hj
  ·exact hk
  ·exact hl j hj) n
mutual
def fT:Nd->Nat->Nat->Nat×Nat
 | .mk nm ats ks,deep,ahead=>if ck1 nm ats deep ahead=0 then uD ks (deep+1) (ahead+1) else(ck1 nm ats deep ahead,ahead)
def uD:List Nd->Nat->Nat->Nat×Nat
 |[],_,ahead=>(0,ahead)
 |k::l,deep,ahead=>if(fT k deep ahead).1=0 then uD l deep (fT k deep ahead).2 else fT k deep ahead
end
theorem vo {nm:Bs}{ats:List (Bs×Bs)}{deep ahead:Nat}(h:ck1 nm ats deep ahead=0):deep<=10/\ahead<100:=by
 unfold ck1 at h;split at h
 ·cases h
 ·split at h
  ·cases h
  ·omega
mutual
theorem Mg:∀(n:Nd) (deep ahead:Nat),(fT n deep ahead).1=0->(fT n deep ahead).2<=100
 | .mk nm ats ks,deep,ahead,h=>by
  unfold fT at h⊢;split at h
  ·rename_i h1;rw[if_pos h1];exact V5 ks _ _ (vo h1).2 h
  ·rename_i h1;exact(h1 h).elim
theorem V5:∀(l:List Nd) (deep ahead:Nat),ahead<=100->(uD l deep ahead).1=0->(uD l deep ahead).2<=100
 |[],deep,ahead,ha,_=>by unfold uD;exact ha
 |k::l,deep,ahead,ha,h=>by
  unfold uD at h⊢;split at h
  ·rename_i h1;rw[if_pos h1];exact V5 l _ _ (Mg k _ _ h1) h
  ·rename_i h1;exact(h1 h).elim
end
theorem J9 {nm:Bs}{ats:List (Bs×Bs)}{ks:List Nd}{deep ahead:Nat}(h:ck1 nm ats deep ahead=0):fT (.mk nm ats ks) deep ahead=uD ks (deep+1) (ahead+1):=by rw[fT,if_pos h]
theorem qM {k:Nd}{l:List Nd}{deep ahead:Nat}(h:(fT k deep ahead).1=0):uD (k::l) deep ahead=uD l deep (fT k deep ahead).2:=by rw[uD,if_pos h]
theorem vv {k:Nd}{l:List Nd}{deep ahead:Nat}(h:(fT k deep ahead).1≠0):uD (k::l) deep ahead=fT k deep ahead:=by rw[uD,if_neg h]
def Flt (E:Nat->Addr)(B:Nat)(r:Nat×Nat)(e:Ending)(w:World):Prop:=∃pb,B<=pb/\e=.returned (.iface 113 (aj pb))/\w.cell? (ag pb 0)=some (aa r.2)/\w.cell? (ag pb 1)=some (.iface 390 (.pointer (some (E r.1))))
def Chk (E:Nat->Addr)(W0:World)(PA PW:Nat)(n:Nd):Prop:=∀(c0 c1 c2:Value) (deep ahead:Nat) (W:World),jR W0 c0 c1 c2 n->deep<=11->ahead<=100->Below W0.heap.size W0 W->
 W.cell? (ag PA 0)=some (aa ahead)->W.frozen? ⟨PA,0,none⟩=false->W.cell? (ag PW 0)=some (.func (.func 74) #[] #[aj PA,aj PW])->
 ak 74 #[.agg #[c0,c1,c2],aa deep,aj PA,aj PW] W fun e w'=>aY PA W w'/\
  (((fT n deep ahead).1=0/\e=.returned .nilIface/\w'.cell? (ag PA 0)=some (aa (fT n deep ahead).2)/\w'.frozen? ⟨PA,0,none⟩=false)\/((fT n deep ahead).1≠0/\Flt E W.heap.size (fT n deep ahead) e w'))
theorem Zy (E:Nat->Addr)(W0:World)(PA PW:Nat)(hE:CE E W0)(hA:W0.heap.size<=PA)(hne:PW≠PA):∀n,Chk E W0 PA PW n:=by
 refine Nd.ind fun nm ats ks ih=>?_;intro c0 c1 c2 deep ahead W hn hd ha hb cA fA cP;have hn':=hn;unfold jR at hn';obtain⟨rfl,hl,⟨o1,dz,rfl,_,_,_,_⟩,ok,dB,rfl,hkc,hkm,hk0,hks⟩:=hn';have HO:=FH E nm ats ks (.slice o1 ats.length dz) (.slice ok ks.length dB) deep ahead;have b0:=aW W (.cells #[.string ⟨nm.toArray⟩,.slice o1 ats.length dz,.slice ok ks.length dB] 25);have n0:=gp W #[.string ⟨nm.toArray⟩,.slice o1 ats.length dz,.slice ok ks.length dB] 25 0 (.string ⟨nm.toArray⟩) rfl;have n1:=gp W #[.string ⟨nm.toArray⟩,.slice o1 ats.length dz,.slice ok ks.length dB] 25 1 (.slice o1 ats.length dz) rfl;have n2:=gp W #[.string ⟨nm.toArray⟩,.slice o1 ats.length dz,.slice ok ks.length dB] 25 2 (.slice ok ks.length dB) rfl;have cA1:=(b0.cell (ax cA)).trans cA;have bW:=hb.trans (b0.mono hb.size);have HO1:=HO _ ((hE.below bW)) (jR.below bW (.mk nm ats ks) hn) (by omega) (by omega);clear HO;unfold eD at*;have ltA:=ax cA;have ltP:=ax cP;simp only at ltA ltP;by_cases hz:ck1 nm ats deep ahead=0
 ·rw[hz,rQ] at HO1;have hr:fT (.mk nm ats ks) deep ahead=uD ks (deep+1) (ahead+1):=J9 hz;rw[hr];obtain⟨hd1,ha1⟩:=vo hz;clear hr hz n1;have fA1:=(OB b0 (p:=⟨PA,0,none⟩) ltA).trans fA;have cP1:=(b0.cell (ax cP)).trans cP;have a6P:(ks.length:Int)<=9223372036854775807:=by rw[aQ] at hkm;omega
  have q1:¬PA=W.heap.size:=by omega
  have q2:¬W.heap.size=PA:=by omega
  have ha':(ahead:Int)<100:=by omega
  have HKS:Hid (fE W0 ok 0 ks):=hks;have IH:Hid (∀k∈ks,Chk E W0 PA PW k):=ih;clear hks ih;go_enter func74,ntmps74;go_wp2_with(go_at_call 75;refine HO1.mono ?_;rintro e w1 ⟨rfl,hb1⟩;have cA2:=(hb1.cell (ax cA1)).trans cA1;have fA2:=(OB hb1 (p:=⟨PA,0,none⟩) (ax cA1)).trans fA1;have cP2:=(hb1.cell (ax cP1)).trans cP1;have m2:=(hb1.cell (ax n2)).trans n2);have K1:aY PA W (w1.setCell ⟨PA,0,none⟩ (aa ((ahead:Int)+1))):=((aY.of_below b0).trans (aY.of_below hb1)).setCell _;have cA3:=aaP (v:=aa ((ahead:Int)+1)) cA2;have fA3:=QI (v:=aa ((ahead:Int)+1)) fA2;have cP3:=aY.cell ((aY.of_below (Below.refl _ w1)).setCell (b:=PA) (aa ((ahead:Int)+1))) cP2 hne;clear HO1 cA1 cA2 fA1 fA2 cP1 cP2 m2 n2 n0 hb1 b0 bW;obtain⟨V,hV⟩:∃V,w1.setCell ⟨PA,0,none⟩ (aa ((ahead:Int)+1))=V:=⟨_,rfl⟩;rw[hV] at K1 cA3 fA3 cP3⊢;clear hV;have bV:Below W0.heap.size W0 V:=hb.trans (K1.below hA hb.size);have sV:=K1.size
  go_loopw [27] (fun y wr=>∃k a:Nat,k<=ks.length/\y=aa k/\uD ks (deep+1) (ahead+1)=uD (ks.drop k) (deep+1) a/\a<=100/\aY PA V wr/\wr.cell? (ag PA 0)=some (aa a)/\wr.frozen? ⟨PA,0,none⟩=false) (fun y _=>ks.length-(intOf y).toNat)
  case atStart=>exact⟨0,ahead+1,Nat.zero_le _,rfl,rfl,by omega,aY.of_below (Below.refl _ _),by rw[cA3];simp,fA3⟩
  case round=>
   obtain⟨k,a,hk,rfl,hf,hal,KV,cA4,fA4⟩:=hrel;have HF:Hid (uD ks (deep+1) (ahead+1)=uD (ks.drop k) (deep+1) a):=hf;clear hf;have cP4:=KV.cell cP3 hne;have bR:Below W0.heap.size W0 wr:=bV.trans (KV.below hA (Nat.le_trans hb.size sV));by_cases hlt:k<ks.length
   ·have hlt':(k:Int)<(ks.length:Int):=by omega
    obtain⟨kid,hx,hdr⟩:=drop_at hlt;obtain⟨b',off',d0,d1,d2,rfl,e0,e1,e2,qh⟩:=HKS.out.get hx;rw[Nat.zero_add] at e0 e1 e2;have hmem:kid∈ks:=List.mem_of_getElem? hx;have HI:=IH.out kid hmem;have Ja:=qh;obtain⟨xZ,jO,ks'⟩:=kid;unfold jR at Ja;obtain⟨rfl, -,⟨o',cap',rfl, -⟩,ok',gI,rfl, -⟩:=Ja;have k0:=(bR.cell (ax e0)).trans e0;have k1:=(bR.cell (ax e1)).trans e1;have k2:=(bR.cell (ax e2)).trans e2;unfold eD at k0 k1 k2 qh;clear e0 e1 e2 hmem;have bU:=aW wr (.cells #[.string ⟨xZ.toArray⟩,.slice o' jO.length cap',.slice ok' ks'.length gI] 25);have u0:=gp wr #[.string ⟨xZ.toArray⟩,.slice o' jO.length cap',.slice ok' ks'.length gI] 25 0 (.string ⟨xZ.toArray⟩) rfl;have u1:=gp wr #[.string ⟨xZ.toArray⟩,.slice o' jO.length cap',.slice ok' ks'.length gI] 25 1 (.slice o' jO.length cap') rfl;have u2:=gp wr #[.string ⟨xZ.toArray⟩,.slice o' jO.length cap',.slice ok' ks'.length gI] 25 2 (.slice ok' ks'.length gI) rfl;have cA5:=bO (.cells #[.string ⟨xZ.toArray⟩,.slice o' jO.length cap',.slice ok' ks'.length gI] 25) cA4;have cP5:=bO (.cells #[.string ⟨xZ.toArray⟩,.slice o' jO.length cap',.slice ok' ks'.length gI] 25) cP4;have fA5:=(OB bU (p:=⟨PA,0,none⟩) (ax cA4)).trans fA4;have HC:=HI _ _ _ (deep+1) a _ qh (by omega) hal (bR.trans (bU.mono bR.size)) cA5 fA5 cP5;rw[show((deep+1:Nat):Int)=(deep:Int)+1 from by omega] at HC;clear HI qh cA5 fA5;have HD:Hid (ks.drop k=Nd.mk xZ jO ks'::ks.drop (k+1)):=hdr;clear hdr hx;generalize Nd.mk xZ jO ks'=kid at HC HD;have hd':(deep:Int)<=10:=by omega
    by_cases hz:(fT kid (deep+1) a).1=0
    ·have Zz:=HC.mono (R':=fun e w'=>e=.returned .nilIface/\aY PA (wr.alloc (.cells #[.string ⟨xZ.toArray⟩,.slice o' jO.length cap',.slice ok' ks'.length gI] 25)) w'/\w'.cell? (ag PA 0)=some (aa (fT kid (deep+1) a).2)/\w'.frozen? ⟨PA,0,none⟩=false) (fun e w' h=>by
      rcases h.2 with h2|h2
      ·exact⟨h2.2.1,h.1,h2.2.2⟩
      ·exact(h2.1 hz).elim)
     have HS:Hid (uD ks (deep+1) (ahead+1)=uD (ks.drop (k+1)) (deep+1) (fT kid (deep+1) a).2/\(fT kid (deep+1) a).2<=100):=⟨by rw[HF.out,HD.out];exact qM hz,Mg _ _ _ hz⟩;clear HC hz;go_wp2_with(go_at_call 74;refine Zz.mono ?_;rintro e w2 ⟨rfl,K2,cA6,fA6⟩)
     go_roundw
     case rel=>exact⟨k+1,_,by omega,by go_num,HS.out.1,HS.out.2,(KV.trans (aY.of_below bU)).trans K2,cA6,fA6⟩
     case measure=>simp[intOf];omega
    ·have HCn:=HC.mono (R':=fun e w'=>aY PA (wr.alloc (.cells #[.string ⟨xZ.toArray⟩,.slice o' jO.length cap',.slice ok' ks'.length gI] 25)) w'/\Flt E (wr.alloc (.cells #[.string ⟨xZ.toArray⟩,.slice o' jO.length cap',.slice ok' ks'.length gI] 25)).heap.size (fT kid (deep+1) a) e w') (fun e w' h=>by
      rcases h.2 with h2|h2
      ·exact(hz h2.1).elim
      ·exact⟨h.1,h2.2⟩)
     have HS:Hid (uD ks (deep+1) (ahead+1)=fT kid (deep+1) a):=(by rw[HF.out,HD.out];exact vv hz:uD ks (deep+1) (ahead+1)=fT kid (deep+1) a);have HP:Hid ((fT kid (deep+1) a).1≠0):=hz;have sR:=KV.size;clear HC hz;generalize fT kid (deep+1) a=r at HCn HS HP;go_wp2_with(go_at_call 74;refine HCn.mono ?_;rintro e w2 ⟨K2,pb,hpb,rfl,z0,z1⟩);go_ret;refine⟨((K1.trans KV).trans (aY.of_below bU)).trans K2,.inr ?_⟩;rw[HS.out];exact⟨HP.out,pb,by simp at hpb;omega,rfl,z0,z1⟩
   ·obtain rfl:k=ks.length:=by omega
    have hz:Hid (uD ks (deep+1) (ahead+1)=(0,a)):=(by rw[HF.out,List.drop_length];unfold uD;rfl:uD ks (deep+1) (ahead+1)=(0,a));go_wp2_with fail;go_ret;exact⟨K1.trans KV,.inl (by rw[hz.out];exact⟨rfl,rfl,cA4,fA4⟩)⟩
 ·rw[iE E hz] at HO1;have hr:fT (.mk nm ats ks) deep ahead=(ck1 nm ats deep ahead,ahead):=by unfold fT;rw[if_neg hz]
  rw[hr];clear hr hks ih n1 n2;go_enter func74,ntmps74;go_wp2_with(go_at_call 75;refine HO1.mono ?_;rintro e w1 ⟨rfl,hb1⟩;have cA2:=(hb1.cell (ax cA1)).trans cA1);go_ret;have z0:=gp w1 #[aa ahead,.iface 390 (.pointer (some (E (ck1 nm ats deep ahead))))] 115 0 (aa ahead) rfl;have z1:=gp w1 #[aa ahead,.iface 390 (.pointer (some (E (ck1 nm ats deep ahead))))] 115 1 (.iface 390 (.pointer (some (E (ck1 nm ats deep ahead))))) rfl;exact⟨((aY.of_below b0).trans (aY.of_below hb1)).trans (aY.of_below (aW w1 _)),.inr ⟨hz,w1.heap.size,(az b0 hb1).size,rfl,z0,z1⟩⟩
end
section
open Go.RowKit
set_option maxHeartbeats 4000000
set_option maxRecDepth 20000
theorem pM (P:Program)(w:World)(a:Addr)(m:Mode)(f:Fn)(x y:Array Value):(store a (.func f x y) m).run P w=stored P w a (.func f x y) m:=run_store P w a _ m rfl
attribute [local go_sem] pM
theorem QJ (W:World)(cs:Array Value)(t:TypeId)(i:Nat):(W.alloc (.cells cs t)).frozen? ⟨W.heap.size,i,none⟩=false:=by
 have e:(W.alloc (.cells cs t)).heap[W.heap.size]? =some (.cells cs t):=by show(W.heap.push (.cells cs t))[W.heap.size]? =_;simp
 unfold World.frozen?;simp only[e];simp
theorem Jb (E:Nat->Addr)(n:Nd)(c0 c1 c2:Value)(W:World)(hE:CE E W)(hn:jR W c0 c1 c2 n):
  ak 37 #[.agg #[c0,c1,c2]] W fun e w'=>Below W.heap.size W w'/\(((fT n 1 0).1=0/\e=.returned .nilIface)\/((fT n 1 0).1≠0/\Flt E W.heap.size (fT n 1 0) e w')):=by
 have HC:=Zy E W (W.heap.size+1) (W.heap.size+1+1) hE (by omega) (by omega) n;unfold Chk at HC;have hn':=hn;obtain⟨nm,ats,ks⟩:=n;unfold jR at hn';obtain⟨rfl, -,⟨o1,dz,rfl, -⟩,ok,dB,rfl, -⟩:=hn';have HC':=fun V h1=>HC (eD nm) (.slice o1 ats.length dz) (.slice ok ks.length dB) 1 0 V hn (by decide) (by decide) h1;clear HC;generalize Nd.mk nm ats ks=n at HC' hn⊢;unfold eD at*;have b1:=aW W (.cells #[.string ⟨nm.toArray⟩,.slice o1 ats.length dz,.slice ok ks.length dB] 25);have n0:=gp W #[.string ⟨nm.toArray⟩,.slice o1 ats.length dz,.slice ok ks.length dB] 25 0 (.string ⟨nm.toArray⟩) rfl;have n1:=gp W #[.string ⟨nm.toArray⟩,.slice o1 ats.length dz,.slice ok ks.length dB] 25 1 (.slice o1 ats.length dz) rfl;have n2:=gp W #[.string ⟨nm.toArray⟩,.slice o1 ats.length dz,.slice ok ks.length dB] 25 2 (.slice ok ks.length dB) rfl;have a0:=gp (W.alloc (.cells #[.string ⟨nm.toArray⟩,.slice o1 ats.length dz,.slice ok ks.length dB] 25)) #[aa 0] 3 0 (aa 0) rfl;have af:=QJ (W.alloc (.cells #[.string ⟨nm.toArray⟩,.slice o1 ats.length dz,.slice ok ks.length dB] 25)) #[aa 0] 3 0;have b2:=aW (W.alloc (.cells #[.string ⟨nm.toArray⟩,.slice o1 ats.length dz,.slice ok ks.length dB] 25)) (.cells #[aa 0] 3);have p0:=gp ((W.alloc (.cells #[.string ⟨nm.toArray⟩,.slice o1 ats.length dz,.slice ok ks.length dB] 25)).alloc (.cells #[aa 0] 3)) #[.func (.func 74) #[] #[.pointer (some ⟨W.heap.size+1,0,none⟩),.pointer (some ⟨W.heap.size+1+1,0,none⟩)]] 163 0 (.func (.func 74) #[] #[.pointer (some ⟨W.heap.size+1,0,none⟩),.pointer (some ⟨W.heap.size+1+1,0,none⟩)]) rfl;have b3:=aW ((W.alloc (.cells #[.string ⟨nm.toArray⟩,.slice o1 ats.length dz,.slice ok ks.length dB] 25)).alloc (.cells #[aa 0] 3)) (.cells #[.func (.func 74) #[] #[.pointer (some ⟨W.heap.size+1,0,none⟩),.pointer (some ⟨W.heap.size+1+1,0,none⟩)]] 163);simp only[World.size_alloc] at a0 af p0;have a3:=(b3.cell (ax a0)).trans a0;have af3:=(OB b3 (p:=⟨W.heap.size+1,0,none⟩) (ax a0)).trans af
 have m0:=(b3.cell (ax ((b2.cell (ax n0)).trans n0))).trans ((b2.cell (ax n0)).trans n0);have m1:=(b3.cell (ax ((b2.cell (ax n1)).trans n1))).trans ((b2.cell (ax n1)).trans n1);have m2:=(b3.cell (ax ((b2.cell (ax n2)).trans n2))).trans ((b2.cell (ax n2)).trans n2);have bb:=az (az b1 b2) b3;have HV:=HC' _ bb a3 af3 p0;have sz:=bb.size;clear a0 af n0 n1 n2 b1 b2 b3 HC';go_enter func37,ntmps37;go_upto_region 4 with fail;obtain⟨V,hV⟩:∃V,((W.alloc (.cells #[.string ⟨nm.toArray⟩,.slice o1 ats.length dz,.slice ok ks.length dB] 25)).alloc (.cells #[aa 0] 3)).alloc (.cells #[.func (.func 74) #[] #[.pointer (some ⟨W.heap.size+1,0,none⟩),.pointer (some ⟨W.heap.size+1+1,0,none⟩)]] 163)=V:=⟨_,rfl⟩;rw[hV] at a3 af3 m0 m1 m2 bb HV p0 sz⊢;clear hV;have HV':=HV.mono (R':=fun e w'=>∃v,e=.returned v/\aY (W.heap.size+1) V w'/\(((fT n 1 0).1=0/\v=.nilIface)\/((fT n 1 0).1≠0/\Flt E V.heap.size (fT n 1 0) (.returned v) w'))) (fun e w' h=>by
  rcases h.2 with h2|h2
  ·exact⟨_,h2.2.1,h.1,.inl ⟨h2.1,rfl⟩⟩
  ·obtain⟨h3,pb,h4,rfl,h5⟩:=h2;exact⟨_,rfl,h.1,.inr ⟨h3,pb,h4,rfl,h5⟩⟩)
 clear HV;go_wp2_with(go_at_call 74;refine HV'.mono ?_;rintro e w1 ⟨v,rfl,K1,hr⟩);go_ret;refine⟨bb.trans (K1.below (by omega) sz),?_⟩;rcases hr with⟨h1,rfl⟩|⟨h1,pb,h2,h3,h4⟩
 ·exact .inl ⟨h1,rfl⟩
 ·exact .inr ⟨h1,pb,Nat.le_trans sz h2,h3,h4⟩
end
section
open Go.RowKit
set_option maxHeartbeats 2000000
set_option maxRecDepth 100000
theorem a1x:(prog.info? 99).map (·.size)=some 2:=by kernel_rfl
theorem a6R:liesAt prog prog.depth 99 (2/prog.cellsOf 99) 0 99 1=true:=by kernel_rfl
theorem QK (b:Nat)(w:World)(h0:w.cell? (ag b 0)=some (aj b)):
  ak 76 #[aj b] w fun e w'=>e=.returned (.tuple #[])/\w'=w:=by
 obtain⟨j,hj, -⟩:=Option.map_eq_some_iff.1 a1x;go_enter func76,ntmps76;go_wp2;rw[Lib.run_neq_ptr_same w _ underlying96 hj];go_wp2
 go_end0
 exact⟨rfl,rfl⟩
theorem Mh (b:Nat)(w:World)(h0:w.cell? (ag b 0)=some (.pointer none))(hs:w.shape? b=some (99,2))(hf:w.frozen? ⟨b,0,none⟩=false):
  ak 76 #[aj b] w fun e w'=>e=.returned (.tuple #[])/\w'=w.setCell ⟨b,0,none⟩ (aj b):=by
 obtain⟨j,hj,hjs⟩:=Option.map_eq_some_iff.1 a1x;go_enter func76,ntmps76;go_wp2;rw[Lib.run_to_unsafe w ⟨b,0,none⟩ underlying96 underlying201 hj (by rw[hjs];decide) hs (Nat.zero_lt_succ 1)];simp only[Result.andThen];rw[Oper.upon_value];go_wp2;rw[run_callFunc_extern func121 (by kernel_rfl) (by kernel_rfl) (by kernel_rfl) (e:=Extern.AbiNoEscape.same) (by kernel_rfl),Lib.run_noEscape];simp only[Result.andThen];rw[Oper.upon_value];go_wp2;rw[Lib.run_from_unsafe w ⟨b,0,none⟩ underlying201 underlying96 hj hs a6R];simp only[Result.andThen];rw[Oper.upon_value];go_wp2
 go_end0
 exact⟨rfl,rfl⟩
abbrev Bd (B b:Nat)(l:Bs)(w:World):Prop:=Lib.IsBuilderF 99 5 B b (Lib.byteCells l) w
structure Yq (B b:Nat)(w w':World):Prop where
 low:Below B w w'
 ZA:Lib.OthersKept 5 (some b) w w'
theorem Yq.trans {B b:Nat}{w w' w'':World}(h:Yq B b w w')(k:Yq B b w' w''):Yq B b w w'':=⟨h.low.trans k.low,h.ZA.trans k.ZA⟩
theorem Yq.refl (B b:Nat)(w:World):Yq B b w w:=⟨Below.refl _ _,Lib.OthersKept.refl _ _ _⟩
theorem Jc (B b:Nat)(l:Bs)(w:World)(h:Bd B b l w):ak 76 #[aj b] w fun e w'=>e=.returned (.tuple #[])/\Lib.BuilderAtF 99 5 B b (aj b) (Lib.byteCells l) w'/\Yq B b w w':=by
 rcases h with h|h
 ·refine(Mh b w h.cell0 h.shape h.frozen0).mono ?_;rintro e w' ⟨rfl,rfl⟩;exact⟨rfl,h.used _,(Below.refl B w).setCell (p:=⟨b,0,none⟩) h.1 _,(Lib.OthersKept.refl _ _ w).setCell ⟨b,0,none⟩ rfl _⟩
 ·refine(QK b w h.cell0).mono ?_;rintro e w' ⟨rfl,rfl⟩;exact⟨rfl,h,Yq.refl _ _ _⟩
theorem Jd:(prog.info? 5).map (fun i=>(i.zero,i.size,i.bytes))=some (some (.int .u8 0),1,1):=by kernel_rfl
theorem Je {w:World}{B:Nat}{e:TypeId}{v:Value}{n:Nat}{xs:List Value}(h:w.ownsRowF B e 1 v n xs):∃ao n' cap,v=.slice ao n' cap:=by
 rcases h.2 with⟨hv,_⟩|⟨g,cap,cur,fz,hv,_⟩
 ·exact⟨_,_,_,hv⟩
 ·exact⟨_,_,_,hv⟩
theorem aD {w:World}{b:Nat}{o:Obj}(h:w.heap[b]? =some o):b<w.heap.size:=(Array.getElem?_eq_some_iff.1 h).1
theorem jW (B b:Nat)(l s:Bs)(w:World)(h:Bd B b l w)(hl:l.length+s.length<=1000000000)(hB:B<=w.heap.size):
  ak 161 #[aj b,.string ⟨s.toArray⟩] w fun e w'=>e=.returned (.tuple #[aa s.length,.nilIface])/\Bd B b (l++s) w'/\Yq B b w w':=by
 obtain⟨i0,hi,hz0,hz1,hz2⟩:=info_parts Jd;have hsz:=fD s;have hbl:(Lib.byteCells l).length=l.length:=by simp[Lib.byteCells]
 have HK:=Jc B b l w h;go_enter func161,ntmps161;go_wp2_with(first|(at_builtin;refine Lib.wpList_append_own_stringF _ rfl _ _ 97 9 rfl B 5 i0 underlying97 underlying9 hi hz0 hz1 hz2 _ _ _ rfl hown ⟨s.toArray⟩ rfl (by rw[hbl,hsz,aQ];omega) (by rw[hbl,hsz];omega) (by omega) ?_;intro v' w2 hown' hgrow _;have hb2:w2.heap[b]? =some (.cells #[aj b,v] 99 (0,0)):=(by rw[hgrow.block b (aD hbk) (fun e=>hne e.symm)];exact hbk);have d1:w2.cell? (ag b 1)=some v:=(by rw[Lib.cell_of_heap hb2];rfl);have f1:w2.frozen? ⟨b,1,none⟩=false:=Lib.frozen_of_heap hb2 1;obtain⟨ao,n',cap,rfl⟩:∃ao n' cap,v'=.slice ao n' cap:=Je hown')|(go_at_call 76;refine HK.mono ?_;rintro e w1 ⟨rfl,⟨hB1,v,hbk,hown,hne⟩,hk1⟩;have c1:w1.cell? (ag b 1)=some v:=(by rw[Lib.cell_of_heap hbk];rfl);have z1:=hk1.low.size))
 go_ret2
 have ho2:w2.ownsRowF B 5 1 (.slice ao n' cap) (Lib.byteCells (l++s)).length (Lib.byteCells (l++s)):=by
  have e1:Lib.byteCells (l++s)=Lib.byteCells l++Lib.strCells ⟨s.toArray⟩:=by rw[Lib.byteCells_append];rfl
  rw[e1,List.length_append,Lib.strCells_length];exact hown'
 refine⟨rfl,.inr (Lib.BuilderAtF.put (T:=99) (e:=5) hB1 hb2 ho2 (by decide)),hk1.trans ⟨?_,?_⟩⟩
 ·exact((Below.refl B w1).grown hgrow (by omega) (fun k hk=>(hown.lt k hk).1)).setCell (p:=⟨b,1,none⟩) hB1 _
 ·exact((Lib.OthersKept.refl _ _ w1).grown hgrow (Lib.ownsRowF_kind hown)).setCell ⟨b,1,none⟩ rfl _
end
section
open Go.RowKit
theorem V7:∀(ats pre:List (Bs×Bs)),yV pre ats=0->∀a∈ats,fo a.1=true/\isVal a.2=true
 |[],_,_,a,ha=>by simp at ha
 |x::r,pre,h,a,ha=>by
  unfold yV at h;split at h
  ·rename_i h0;rcases List.mem_cons.1 ha with rfl|ha
   ·unfold Mf at h0;split at h0
    ·rename_i h1;split at h0
     ·cases h0
     ·split at h0
      ·rename_i h3;exact⟨h1,h3⟩
      ·cases h0
    ·cases h0
   ·exact V7 r _ h a ha
  ·rename_i h0;exact(h0 h).elim
theorem V8 {nm:Bs}{ats:List (Bs×Bs)}{deep ahead:Nat}(h:ck1 nm ats deep ahead=0):fo nm=true/\ats.length<=12/\∀a∈ats,fo a.1=true/\isVal a.2=true:=by
 unfold ck1 at h;split at h
 ·cases h
 ·split at h
  ·cases h
  ·split at h
   ·rename_i hn;split at h
    ·cases h
    ·exact⟨hn,by omega,V7 ats [] h⟩
   ·cases h
theorem Bd.al {B b:Nat}{l:Bs}{w:World}(h:Bd B b l w)(o:Obj):Bd B b l (w.alloc o):=Lib.IsBuilderF.alloc h o
theorem dh (w:World)(cs:Array Value)(t:TypeId):(w.alloc (.cells cs t)).heap[w.heap.size]? =some (.cells cs t):=by show(w.heap.push (.cells cs t))[w.heap.size]? =_;simp
theorem aA {w:World}{N:Nat}{cs:Array Value}{t:TypeId}(h:w.heap[N]? =some (.cells cs t))(i:Nat)(v:Value)(hv:cs[i]? =some v):w.cell? (ag N i)=some v:=by
 unfold World.cell?;simp only[h];simpa using hv
theorem Aq {s:Bs}(h:fo s=true):s.length<=12:=by
 cases s with
 |nil=>simp
 |cons c r=>simp only[fo,Bool.and_eq_true,decide_eq_true_eq] at h;exact h.1.1
theorem nD {s:Bs}(h:isVal s=true):s.length<=200:=by
 simp only[isVal,Bool.and_eq_true,decide_eq_true_eq] at h;exact h.1
end
section
open Go.RowKit
theorem Bd.fresh (B:Nat)(w:World)(hB:B<=w.heap.size):Bd B w.heap.size [] (w.alloc (.cells #[.pointer none,.slice none 0 0] 99)):=
 .inl ⟨hB,.slice none 0 0,dh w _ _,World.ownsRowF_of (World.ownsRow_nil _ _ _ _),by simp[Value.ownBlock]⟩
theorem lX {B:Nat}{w:World}:∀(k:Nat) {v:World},Below B w v->Below B w (v.drewN k):=fun _ _ h=>⟨h.os,h.tape,h.output,h.size,h.block⟩
end
section
open Go.RowKit
structure wo where
 nm:Bs
 c:Value
 parent:Int
 deep:Nat
def wo.cells (x:wo):List Value:=[.string ⟨x.nm.toArray⟩,x.c,aa x.parent,aa x.deep]
def fG:List wo->List Value
 |[]=>[]
 |x::r=>x.cells++fG r
theorem tu:∀a c:List wo,fG (a++c)=fG a++fG c
 |[],_=>rfl
 |x::a,c=>by simp[fG,tu a c]
theorem Jf (a:List wo)(x:wo):fG (a++[x])=fG a++x.cells:=by rw[tu];simp[fG]
def FlR (W0:World)(x:wo)(f:Fl):Prop:=x.nm=f.name/\kg W0 x.c f.attrs/\x.parent=f.parent/\x.deep=f.deep/\x.nm.length<=maxLen
def je (W0:World):List wo->List Fl->Prop
 |[],[]=>True
 |x::r,f::q=>FlR W0 x f/\je W0 r q
 |_,_=>False
theorem je.len {W0:World}:∀{a:List wo} {f:List Fl},je W0 a f->a.length=f.length
 |[],[],_=>rfl
 |_::r,_::q,h=>by simp[je.len (a:=r) (f:=q) h.2]
 |[],_::_,h=>h.elim
 |_::_,[],h=>h.elim
theorem je.app {W0:World}:∀{a c:List wo} {f g:List Fl},je W0 a f->je W0 c g->je W0 (a++c) (f++g)
 |[],_,[],_,_,k=>k
 |_::r,_,_::q,_,h,k=>⟨h.1,je.app (a:=r) (f:=q) h.2 k⟩
 |[],_,_::_,_,h,_=>h.elim
 |_::_,_,[],_,h,_=>h.elim
theorem ZC {w:World}{B:Nat}{e:TypeId}{size:Nat}{v:Value}{n:Nat}{xs:List Value}(h:w.ownsRow B e size v n xs):∀k,v.ownBlock=some k->B<=k:=by
 rcases h.2 with⟨rfl,_⟩|⟨g,cap,cur,rfl,hg,_⟩
 ·intro k hk;cases hk
 ·intro k hk;cases hk;exact hg
theorem V9 {w:World}{B:Nat}{e:TypeId}{size:Nat}{v:Value}{n:Nat}{xs:List Value}(h:w.ownsRow B e size v n xs):∀g,v.ownBlock=some g->∃c fz,w.heap[g]? =some (.cells c e fz):=by
 rcases h.2 with⟨rfl,_⟩|⟨g,cap,cur,rfl,_,hgg,_⟩
 ·intro k hk;cases hk
 ·intro k hk;cases hk;exact⟨cur,_,hgg⟩
structure FK (B:Nat)(w w':World):Prop where
 low:Below B w w'
 ZA:Lib.OthersKept 63 none w w'
theorem FK.trans {B:Nat}{w w' w'':World}(h:FK B w w')(k:FK B w' w''):FK B w w'':=⟨h.low.trans k.low,h.ZA.trans k.ZA⟩
theorem FK.refl (B:Nat)(w:World):FK B w w:=⟨Below.refl _ _,Lib.OthersKept.refl _ _ _⟩
theorem FK.al {B:Nat}(w:World)(o:Obj)(hB:B<=w.heap.size):FK B w (w.alloc o):=⟨(Below.refl B w).alloc hB o,(Lib.OthersKept.refl _ _ w).alloc o⟩
theorem FK.box {B:Nat}{w w':World}(h:FK B w w'){N:Nat}{cs:Array Value}{t:TypeId}(hN:w.heap[N]? =some (.cells cs t))(ht:t≠63):w'.heap[N]? =some (.cells cs t):=
 h.ZA N _ hN (fun e=>nomatch e) (fun c fz e=>by cases e;exact ht rfl)
theorem FK.grown {B:Nat}{w w':World}{v:Value}{n:Nat}{xs:List Value}(ho:w.ownsRow B 63 4 v n xs)(hg:w.grownBy w' v.ownBlock)(hB:B<=w.heap.size):FK B w w':=
 ⟨(Below.refl B w).grown hg hB (ZC ho),(Lib.OthersKept.refl _ _ w).grown hg (V9 ho)⟩
theorem FK.Va {B:Nat}{w w':World}(hg:w.grownBy w' none)(hB:B<=w.heap.size):FK B w w':=
 ⟨(Below.refl B w).grown hg hB (fun _ hk=>nomatch hk),(Lib.OthersKept.refl _ _ w).grown hg (fun _ hk=>nomatch hk)⟩
theorem Vb:(prog.info? 63).map (fun i=>(i.zero,i.size,i.bytes))=some (some (.agg #[.string ⟨#[]⟩,.slice none 0 0,aa 0,aa 0]),4,56):=by kernel_rfl
theorem aI {w:World}{B:Nat}{e:TypeId}{k:Nat}{v:Value}{n:Nat}{xs:List Value}(h:w.ownsRow B e k v n xs):∃o cap,v=.slice o n cap:=by
 rcases h.2 with⟨hv,hn⟩|⟨g,cap,cur,hv,_⟩
 ·exact⟨_,_,by rw[hv,hn]⟩
 ·exact⟨_,_,hv⟩
theorem Mi (w:World)(a b c d:Value)(t:TypeId):∀j u,[a,b,c,d][j]? =some u->(w.alloc (.cells #[a,b,c,d] t)).cell? ((⟨w.heap.size,0,none⟩:Addr).add j)=some u:=by
 intro j u h;have e:(⟨w.heap.size,0,none⟩:Addr).add j=⟨w.heap.size,j,none⟩:=by unfold Addr.add;split<;>simp_all
 rw[e];exact gp w #[a,b,c,d] t j u (by simpa using h)
theorem Ar (k:Nat)(p:Int)(d:Nat):∀(a c:List Nd),sI k p d (a++c)=sI k p d a++sI (k+(sI k p d a).length) p d c:=by
 intro a
 induction a generalizing k with
 |nil=>intro c;simp[sI]
 |cons x a ih=>
  intro c;rw[List.cons_append,sI,sI,ih,List.length_append,List.append_assoc,Nat.add_assoc]
theorem Jg {k:Nat}{p:Int}{d:Nat}{ks:List Nd}{i:Nat}{x:Nd}(hx:ks[i]? =some x):sI k p d (ks.take (i+1))=sI k p d (ks.take i)++nu (k+(sI k p d (ks.take i)).length) p d x:=by
 rw[List.take_add_one,hx,Ar];simp[sI]
end
section
open Go.RowKit
def aF:List (Bs×Bs)->List Value
 |[]=>[]
 |x::r=>[.string ⟨x.1.toArray⟩,.string ⟨x.2.toArray⟩]++aF r
theorem iF:∀a c:List (Bs×Bs),aF (a++c)=aF a++aF c
 |[],_=>rfl
 |x::a,c=>by simp[aF,iF a c]
theorem yc (a:List (Bs×Bs))(x:Bs×Bs):aF (a++[x])=aF a++[.string ⟨x.1.toArray⟩,.string ⟨x.2.toArray⟩]:=by rw[iF];simp[aF]
theorem uu:∀(M:List (Bs×Bs)) (i:Nat) (x:Bs×Bs),M[i]? =some x->(aF M)[i*2]? =some (eD x.1)/\(aF M)[i*2+1]? =some (eD x.2)
 |[],i,x,h=>by simp at h
 |y::r,0,x,h=>by
  simp at h;subst h;exact⟨rfl,rfl⟩
 |y::r,i+1,x,h=>by
  have:=uu r i x (by simpa using h);rw[show(i+1)*2=i*2+1+1 from by omega,show i*2+1+1+1=(i*2+1)+1+1 from rfl];simp only[aF,List.cons_append,List.nil_append,List.getElem?_cons_succ];exact this
theorem bJ {w:World}{B k:Nat}{e:TypeId}{v:Value}{n:Nat}{xs:List Value}(h:w.ownsRow B e k v n xs)(j:Nat)(u:Value)(hj:xs[j]? =some u):∃g,v.ownBlock=some g/\w.cell? (ag g j)=some u:=by
 obtain⟨h1,h2⟩:=h;rcases h2 with⟨_,h2⟩|⟨g,cap,cur,h3,h4,h5,h6,h7,h8,h9⟩
 ·subst h2;have hx:xs=[]:=List.eq_nil_of_length_eq_zero (by simpa using h1);rw[hx] at hj;simp at hj
 ·refine⟨g,by rw[h3];rfl,?_⟩;rw[<- h9,List.getElem?_take] at hj;split at hj
  ·unfold World.cell?;rw[h5];simpa using hj
  ·cases hj
theorem bA {w:World}{B k:Nat}{e:TypeId}{v:Value}{n:Nat}{xs:List Value}(h:w.ownsRow B e k v n xs):∃o cap,v=.slice o n cap/\n<=cap/\cap<=maxLen/\(o=none->cap=0)/\∀g,v.ownBlock=some g->o=some ⟨g,0,none⟩:=by
 rcases h.2 with⟨h1,h2⟩|⟨g,cap,cur,h3,h4,h5,h6,h7,h8,h9⟩
 ·exact⟨none,0,by rw[h1,h2],by omega,by omega,fun _=>rfl,fun g hg=>by rw[h1] at hg;cases hg⟩
 ·exact⟨_,cap,h3,h6,h7,(fun h=>by cases h),(fun g' hg=>by rw[h3] at hg;cases hg;rfl)⟩
theorem bS {w w':World}{B k n:Nat}{e:TypeId}{v:Value}{xs:List Value}(h:w.ownsRow B e k v n xs)(hs:∀g,v.ownBlock=some g->w'.heap[g]? =w.heap[g]?):w'.ownsRow B e k v n xs:=by
 obtain⟨h1,h2⟩:=h;refine⟨h1,?_⟩;rcases h2 with h2|⟨g,cap,cur,h3,h4,h5,h6⟩
 ·exact .inl h2
 ·exact .inr ⟨g,cap,cur,h3,h4,(hs g (by rw[h3];rfl)).trans h5,h6⟩
theorem aK {B k n:Nat}{e:TypeId}{v:Value}{xs:List Value}{w w':World}(h:w.ownsRow B e k v n xs)(hb:Below w.heap.size w w'):w'.ownsRow B e k v n xs:=
 bS h fun g hg=>hb.block g (h.lt g hg).2
theorem own_ne {R B k n:Nat}{e:TypeId}{v:Value}{xs:List Value}{w:World}(h:w.ownsRow B e k v n xs)(hR:R<B):some R≠v.ownBlock:=fun e=>by have:=(h.lt R e.symm).1;omega
theorem vw:(prog.info? 65).map (fun i=>(i.zero,i.size,i.bytes))=some (some (.agg #[.string ⟨#[]⟩,.string ⟨#[]⟩]),2,32):=by kernel_rfl
theorem yX:(prog.info? 3).map (fun i=>(i.zero,i.size,i.bytes))=some (some (aa 0),1,8):=by kernel_rfl
def NB (N:Nat)(c0 c1 c2:Value)(w:World):Prop:=w.heap[N]? =some (.cells #[c0,c1,c2] 25)
theorem NB.c0 {N:Nat}{c0 c1 c2:Value}{w:World}(h:NB N c0 c1 c2 w):w.cell? (ag N 0)=some c0:=aA h 0 _ rfl
theorem NB.c1 {N:Nat}{c0 c1 c2:Value}{w:World}(h:NB N c0 c1 c2 w):w.cell? (ag N 1)=some c1:=aA h 1 _ rfl
theorem NB.c2 {N:Nat}{c0 c1 c2:Value}{w:World}(h:NB N c0 c1 c2 w):w.cell? (ag N 2)=some c2:=aA h 2 _ rfl
end
end Go.Proofs.YtjfiehbcamfdfaaGreatDoor

/- Parts of the proof. -/
import Derived.Test.YtjfiehbcamfdfaaGreatDoorChecked
import Derived.Test.YtjfiehbcamfdfaaGreatDoorQz9
import Derived.Test.YtjfiehbcamfdfaaGreatDoorQz4
import Derived.Test.YtjfiehbcamfdfaaGreatDoorQz10
namespace Go.Proofs.YtjfiehbcamfdfaaGreatDoor
open Go.Proofs.Tryz
set_option maxHeartbeats 8000000
section
open Go.RowKit
theorem Ex (s:aD):s.data.toList.length=s.size:=Array.length_toList
theorem P7 (s:aD)(i:Nat)(h:i<s.size):s.data.toList[i]'(by rw[Ex];exact h)=s[i]:=by simp[ByteArray.getElem_eq_getElem_data]
theorem a6P (c d:UInt8):(c<=d)↔((c.toNat:Int)<=(d.toNat:Int)):=by rw[UInt8.le_iff_toNat_le];omega
theorem ZL (c d:UInt8):(c<d)↔((c.toNat:Int)<(d.toNat:Int)):=by rw[UInt8.lt_iff_toNat_lt];omega
theorem a6Q (c d:UInt8):(c=d)↔((c.toNat:Int)=(d.toNat:Int)):=by rw[<- UInt8.toNat_inj];omega
theorem P9 (c:UInt8):(c.toNat:Int)<=255:=by have:=c.toNat_lt;omega
theorem ZM {s:aD}(h:0<s.size):s.toList.isEmpty=false:=by
 rw[ByteArray.toList_eq,List.isEmpty_eq_false_iff];intro e;have:=Ex s;rw[e] at this;simp at this;omega
theorem VA (c:UInt8):yO c=true↔97<=(c.toNat:Int)/\(c.toNat:Int)<=122:=by
 simp only[yO,Bool.and_eq_true,decide_eq_true_eq,a6P];rfl
theorem VB (c:UInt8):M8 c=true↔48<=(c.toNat:Int)/\(c.toNat:Int)<=57:=by
 simp only[M8,Bool.and_eq_true,decide_eq_true_eq,a6P];rfl
theorem iC (c:UInt8)(w:ag):ax 149 #[.int .u8 c.toNat] w fun e w'=>e=.returned (.bool (yO c))/\w'=w:=by
 have hL:=VA c;generalize yO c=b at hL⊢;by_cases h1:97<=(c.toNat:Int)
 ·by_cases h2:(c.toNat:Int)<=122
  ·obtain rfl:b=true:=hL.2 ⟨h1,h2⟩;clear hL;go_enter func149,ntmps149;go_wp2;go_ret;exact⟨rfl,rfl⟩
  ·obtain rfl:b=false:=by cases b with
    |false=>rfl
    |true=>exact(h2 (hL.1 rfl).2).elim
   clear hL;go_enter func149,ntmps149;go_wp2;go_ret;exact⟨rfl,rfl⟩
 ·obtain rfl:b=false:=by cases b with
   |false=>rfl
   |true=>exact(h1 (hL.1 rfl).1).elim
  clear hL;go_enter func149,ntmps149;go_wp2;go_ret;exact⟨rfl,rfl⟩
theorem qx (c:UInt8)(w:ag):ax 150 #[.int .u8 c.toNat] w fun e w'=>e=.returned (.bool (M8 c))/\w'=w:=by
 have hL:=VB c;generalize M8 c=b at hL⊢;by_cases h1:48<=(c.toNat:Int)
 ·by_cases h2:(c.toNat:Int)<=57
  ·obtain rfl:b=true:=hL.2 ⟨h1,h2⟩;clear hL;go_enter func150,ntmps150;go_wp2;go_ret;exact⟨rfl,rfl⟩
  ·obtain rfl:b=false:=by cases b with
    |false=>rfl
    |true=>exact(h2 (hL.1 rfl).2).elim
   clear hL;go_enter func150,ntmps150;go_wp2;go_ret;exact⟨rfl,rfl⟩
 ·obtain rfl:b=false:=by cases b with
   |false=>rfl
   |true=>exact(h1 (hL.1 rfl).1).elim
  clear hL;go_enter func150,ntmps150;go_wp2;go_ret;exact⟨rfl,rfl⟩
theorem VC (s:aD):fP s.data.toList=true↔∃h0:0<s.size,s.size<=12/\yO s[0]=true/\∀i (h:i<s.size),1<=i->Uh s[i]=true:=by
 have hl:=Ex s;have hg:=fun i h=>P7 s i h;constructor
 ·intro h;cases hs:s.data.toList with
  |nil=>rw[hs] at h;simp[fP] at h
  |cons c r=>
   rw[hs] at h hl;simp only[fP,Bool.and_eq_true,decide_eq_true_eq,List.all_eq_true] at h;have h0:0<s.size:=by rw[<- hl];simp
   refine⟨h0,by rw[<- hl];exact h.1.1,?_,fun i hi h1=>?_⟩
   ·rw[<- hg 0 h0];simp only[hs,List.getElem_cons_zero];exact h.1.2
   ·obtain⟨j,rfl⟩:∃j,i=j+1:=⟨i-1,by omega⟩;rw[<- hg _ hi];simp only[hs,List.getElem_cons_succ];exact h.2 _ (List.getElem_mem _)
 ·rintro⟨h0,h1,h2,h3⟩;cases hs:s.data.toList with
  |nil=>rw[hs] at hl;simp at hl;omega
  |cons c r=>
   rw[hs] at hl;simp only[fP,Bool.and_eq_true,decide_eq_true_eq,List.all_eq_true];refine⟨⟨by rw[hl];exact h1,?_⟩,fun d hd=>?_⟩
   ·have:=hg 0 h0;simp only[hs,List.getElem_cons_zero] at this;rw[this];exact h2
   ·obtain⟨i,hi,rfl⟩:=List.mem_iff_getElem.1 hd;have hlt:i+1<s.size:=by rw[<- hl];simp;exact hi
    have:=hg (i+1) hlt;simp only[hs,List.getElem_cons_succ] at this;rw[this];exact h3 _ hlt (by omega)
theorem gm (s:aD)(hs:s.size<=9223372036854775807)(w:ag):ax 102 #[.string s] w fun e w'=>e=.returned (.bool (fP s.data.toList))/\w'=w:=by
 have hN:=VC s;generalize fP s.data.toList=b at hN⊢;have NO:Hid ((¬∃h0:0<s.size,s.size<=12/\yO s[0]=true/\∀i (h:i<s.size),1<=i->Uh s[i]=true)->b=false):=fun h=>by
  cases b with
  |false=>rfl
  |true=>exact(h (hN.1 rfl)).elim
 have YES:Hid ((∃h0:0<s.size,s.size<=12/\yO s[0]=true/\∀i (h:i<s.size),1<=i->Uh s[i]=true)->b=true):=hN.2;clear hN;by_cases h0:0<s.size
 ·have hE:=ZM h0;have hE':¬s.toList=[]:=by intro e;rw[e] at hE;simp at hE
  by_cases h1:s.size<=12
  ·have h1':(s.size:Int)<=12:=by omega
   cases h2:yO s[0] with
   |false=>
    obtain rfl:=NO.out (fun⟨_,_,h,_⟩=>by rw[h2] at h;cases h);clear NO YES;go_enter func102,ntmps102;go_wp2_with(go_at_call 149;refine(iC s[0] _).mono ?_;rw[h2];rintro e w1 ⟨rfl,rfl⟩);go_ret;exact⟨rfl,rfl⟩
   |true=>
    go_enter func102,ntmps102;go_wp2_with(go_at_call 149;refine(iC s[0] _).mono ?_;rw[h2];rintro e w1 ⟨rfl,rfl⟩)
    go_loop [3] (fun y=>∃k:Nat,k<=s.size/\1<=k/\y=aa k/\∀i (h:i<s.size),1<=i->i<k->Uh s[i]=true) (fun y=>s.size-(intOf y).toNat)
    case atStart=>exact⟨1,by omega,by omega,rfl,fun i _ a b=>by omega⟩
    case round=>
     obtain⟨k,hk,hk1,rfl,hall⟩:=hrel;have HA:=aj hall;clear hall;by_cases hlt:k<s.size
     ·have hlt':(k:Int)<(s.size:Int):=by omega
      have hb:=P9 s[k];cases hl:yO s[k] with
      |true=>
       go_wp2_with(go_at_call 149;refine(iC s[k] _).mono ?_;rw[hl];rintro e w2 ⟨rfl,rfl⟩)
       go_round
       case rel=>exact⟨k+1,by omega,by omega,by go_num,fun i h a b=>by
        by_cases e:i<k
        ·exact HA.out i h a e
        ·obtain rfl:i=k:=by omega
         simp[Uh,hl]⟩
       case measure=>simp[intOf];omega
      |false=>
       cases hd:M8 s[k] with
       |true=>
        go_wp2_with(first|(go_at_call 149;refine(iC s[k] _).mono ?_;rw[hl];rintro e w2 ⟨rfl,rfl⟩)|(go_at_call 150;refine(qx s[k] _).mono ?_;rw[hd];rintro e w3 ⟨rfl,rfl⟩))
        go_round
        case rel=>exact⟨k+1,by omega,by omega,by go_num,fun i h a b=>by
         by_cases e:i<k
         ·exact HA.out i h a e
         ·obtain rfl:i=k:=by omega
          simp[Uh,hd]⟩
        case measure=>simp[intOf];omega
       |false=>
        by_cases h45:(s[k].toNat:Int)=45
        ·have L45:∀w,ax 149 #[.int .u8 45] w fun e w'=>e=.returned (.bool false)/\w'=w:=fun w=>by have:=iC 45 w;rwa[show yO 45=false from by decide,show(((45:UInt8).toNat:Nat):Int)=45 from by decide] at this
         have D45:∀w,ax 150 #[.int .u8 45] w fun e w'=>e=.returned (.bool false)/\w'=w:=fun w=>by have:=qx 45 w;rwa[show M8 45=false from by decide,show(((45:UInt8).toNat:Nat):Int)=45 from by decide] at this
         have e45:Hid (Uh s[k]=true):=(by have:s[k]=45:=(a6Q _ _).2 (h45.trans (by decide));simp[Uh,this]:Uh s[k]=true);go_wp2_with(first|(go_at_call 149;refine(L45 _).mono ?_;rintro e w2 ⟨rfl,rfl⟩)|(go_at_call 150;refine(D45 _).mono ?_;rintro e w3 ⟨rfl,rfl⟩))
         go_round
         case rel=>exact⟨k+1,by omega,by omega,by go_num,fun i h a b=>by
          by_cases e:i<k
          ·exact HA.out i h a e
          ·obtain rfl:i=k:=by omega
           exact e45.out⟩
         case measure=>simp[intOf];omega
        ·have hn:Uh s[k]=false:=by
          have:¬s[k]=45:=fun e=>h45 (((a6Q _ _).1 e).trans (by decide));simp[Uh,hl,hd,this]
         obtain rfl:=NO.out (fun⟨_,_,_,h⟩=>by have:=h k hlt hk1;rw[hn] at this;cases this);clear NO YES HA hn;go_wp2_with(first|(go_at_call 149;refine(iC s[k] _).mono ?_;rw[hl];rintro e w2 ⟨rfl,rfl⟩)|(go_at_call 150;refine(qx s[k] _).mono ?_;rw[hd];rintro e w3 ⟨rfl,rfl⟩));go_ret;exact⟨rfl,rfl⟩
     ·obtain rfl:=YES.out ⟨h0,h1,h2,fun i h a=>HA.out i h a (by omega)⟩;clear NO YES HA;have hge:¬(k:Int)<(s.size:Int):=by omega
      go_wp2_with fail;go_ret;exact⟨rfl,rfl⟩
  ·obtain rfl:=NO.out (fun⟨_,h,_⟩=>h1 h);clear NO YES;have h1':12<(s.size:Int):=by omega
   go_enter func102,ntmps102;go_wp2_with fail;go_ret;exact⟨rfl,rfl⟩
 ·obtain rfl:=NO.out (fun⟨h,_⟩=>h0 h);clear NO YES;have hE:s.toList.isEmpty=true:=by
   rw[ByteArray.toList_eq,List.isEmpty_iff];exact List.length_eq_zero_iff.1 (by rw[Ex];omega)
  have hE':s.toList=[]:=List.isEmpty_iff.1 hE;go_enter func102,ntmps102;go_wp2_with fail;go_ret;exact⟨rfl,rfl⟩
theorem Ro (s:aD):isVal s.data.toList=true↔s.size<=200/\∀i (h:i<s.size),32<=(s[i].toNat:Int)/\(s[i].toNat:Int)<=126:=by
 have hl:=Ex s;simp only[isVal,Bool.and_eq_true,decide_eq_true_eq,List.all_eq_true,hl,Bool.not_eq_true',decide_eq_false_iff_not];refine and_congr_right fun _=>⟨fun h i hi=>?_,fun h c hc=>?_⟩
 ·have:=h s[i] (by rw[<- P7 s i hi];exact List.getElem_mem _);rw[ZL,ZL] at this;have e1:(((32:UInt8).toNat:Nat):Int)=32:=by decide
  have e2:(((126:UInt8).toNat:Nat):Int)=126:=by decide
  rw[e1,e2] at this;omega
 ·obtain⟨i,hi,rfl⟩:=List.mem_iff_getElem.1 hc;rw[hl] at hi;have:=h i hi;rw[P7 s i hi,ZL,ZL];have e1:(((32:UInt8).toNat:Nat):Int)=32:=by decide
  have e2:(((126:UInt8).toNat:Nat):Int)=126:=by decide
  rw[e1,e2];omega
theorem yu (s:aD)(hs:s.size<=9223372036854775807)(w:ag):ax 111 #[.string s] w fun e w'=>e=.returned (.bool (isVal s.data.toList))/\w'=w:=by
 have hN:=Ro s;generalize isVal s.data.toList=b at hN⊢;have NO:Hid ((¬(s.size<=200/\∀i (h:i<s.size),32<=(s[i].toNat:Int)/\(s[i].toNat:Int)<=126))->b=false):=fun h=>by
  cases b with
  |false=>rfl
  |true=>exact(h (hN.1 rfl)).elim
 have YES:Hid ((s.size<=200/\∀i (h:i<s.size),32<=(s[i].toNat:Int)/\(s[i].toNat:Int)<=126)->b=true):=hN.2;clear hN;by_cases h1:s.size<=200
 ·have h1':(s.size:Int)<=200:=by omega
  go_enter func111,ntmps111;go_wp2_with fail
  go_loop [3] (fun y=>∃k:Nat,k<=s.size/\y=aa k/\∀i (h:i<s.size),i<k->32<=(s[i].toNat:Int)/\(s[i].toNat:Int)<=126) (fun y=>s.size-(intOf y).toNat)
  case atStart=>exact⟨0,by omega,rfl,fun i _ b=>by omega⟩
  case round=>
   obtain⟨k,hk,rfl,hall⟩:=hrel;have HA:=aj hall;clear hall;by_cases hlt:k<s.size
   ·have hlt':(k:Int)<(s.size:Int):=by omega
    have hb:=P9 s[k];by_cases c1:(s[k].toNat:Int)<32
    ·obtain rfl:=NO.out (fun h=>by have:=(h.2 k hlt).1;omega);clear NO YES HA;go_wp2_with fail;go_ret;exact⟨rfl,rfl⟩
    ·by_cases c2:126<(s[k].toNat:Int)
     ·obtain rfl:=NO.out (fun h=>by have:=(h.2 k hlt).2;omega);clear NO YES HA;go_wp2_with fail;go_ret;exact⟨rfl,rfl⟩
     ·have HK:Hid (32<=(s[k].toNat:Int)/\(s[k].toNat:Int)<=126):=⟨by omega,by omega⟩;go_wp2_with fail
      go_round
      case rel=>exact⟨k+1,by omega,by go_num,fun i h b=>by
       by_cases e:i<k
       ·exact HA.out i h e
       ·obtain rfl:i=k:=by omega
        exact HK.out⟩
      case measure=>simp[intOf];omega
   ·obtain rfl:=YES.out ⟨h1,fun i h=>HA.out i h (by omega)⟩;clear NO YES HA;have hge:¬(k:Int)<(s.size:Int):=by omega
    go_wp2_with fail;go_ret;exact⟨rfl,rfl⟩
 ·obtain rfl:=NO.out (fun h=>h1 h.1);clear NO YES;have h1':200<(s.size:Int):=by omega
  go_enter func111,ntmps111;go_wp2_with fail;go_ret;exact⟨rfl,rfl⟩
def fe (s:Bs):ah:=.string ⟨s.toArray⟩
theorem ZN (s:aD):Value.string s=fe s.data.toList:=by cases s;rfl
theorem dS (s:Bs):(⟨s.toArray⟩:aD).size=s.length:=by simp[ByteArray.size]
def Ay (w:ag)(o:Option Addr)(ats:List (Bs×Bs)):Prop:=∀i x,ats[i]? =some x->∃b off,o=some ⟨b,off,none⟩/\w.cell? (ak b (off+i*2))=some (fe x.1)/\w.cell? (ak b (off+i*2+1))=some (fe x.2)/\x.1.length<=maxLen/\x.2.length<=maxLen
def jW (w:ag)(v:ah)(ats:List (Bs×Bs)):Prop:=∃o cap,v=.slice o ats.length cap/\ats.length<=cap/\cap<=maxLen/\(o=none->cap=0)/\Ay w o ats
mutual
def jX (w:ag)(c0 c1 c2:ah):Nd->Prop
 | .mk nm ats ks=>c0=fe nm/\nm.length<=maxLen/\jW w c1 ats/\∃o cap,c2=.slice o ks.length cap/\ks.length<=cap/\cap<=maxLen/\(o=none->cap=0)/\gX w o 0 ks
def gX (w:ag)(o:Option Addr)(i:Nat):List Nd->Prop
 |[]=>True
 |k::l=>(∃b off c0 c1 c2,o=some ⟨b,off,none⟩/\w.cell? (ak b (off+i*3))=some c0/\w.cell? (ak b (off+i*3+1))=some c1/\w.cell? (ak b (off+i*3+2))=some c2/\jX w c0 c1 c2 k)/\gX w o (i+1) l
end
theorem az {w:ag}{a:Addr}{v:ah}(h:w.cell? a=some v):a.block<w.heap.size:=by
 rcases Nat.lt_or_ge a.block w.heap.size with h'|h'
 ·exact h'
 ·simp[World.cell?,Array.getElem?_eq_none h'] at h
theorem Ay.below {w w':ag}{o:Option Addr}{ats:List (Bs×Bs)}(h:Ay w o ats)(hb:Below w.heap.size w w'):Ay w' o ats:=fun i x hx=>by
 obtain⟨b,off,h1,h2,h3,h4⟩:=h i x hx;exact⟨b,off,h1,(hb.cell (az h2)).trans h2,(hb.cell (az h3)).trans h3,h4⟩
theorem jW.below {w w':ag}{v:ah}{ats:List (Bs×Bs)}(h:jW w v ats)(hb:Below w.heap.size w w'):jW w' v ats:=by
 obtain⟨o,cap,h1,h2,h3,h5,h4⟩:=h;exact⟨o,cap,h1,h2,h3,h5,h4.below hb⟩
mutual
theorem jX.below {w w':ag}(hb:Below w.heap.size w w'):∀{c0 c1 c2:ah} (n:Nd),jX w c0 c1 c2 n->jX w' c0 c1 c2 n
 |_,_,_,.mk _ _ ks,h=>by
  unfold jX at h⊢;obtain⟨h1,h2,h3,o,cap,h4,h5,h6,h8,h7⟩:=h;exact⟨h1,h2,h3.below hb,o,cap,h4,h5,h6,h8,gX.below hb ks h7⟩
theorem gX.below {w w':ag}(hb:Below w.heap.size w w'):∀{o:Option Addr} {i:Nat} (l:List Nd),gX w o i l->gX w' o i l
 |_,_,[],_=>by unfold gX;trivial
 |_,_,k::l,h=>by
  unfold gX at h⊢;obtain⟨⟨b,off,c0,c1,c2,h1,h2,h3,h4,h5⟩,h6⟩:=h;exact⟨⟨b,off,c0,c1,c2,h1,(hb.cell (az h2)).trans h2,(hb.cell (az h3)).trans h3,(hb.cell (az h4)).trans h4,jX.below hb k h5⟩,gX.below hb l h6⟩
end
theorem gX.get {w:ag}{o:Option Addr}:∀{l:List Nd} {i j:Nat} {k:Nd},gX w o i l->l[j]? =some k->∃b off c0 c1 c2,o=some ⟨b,off,none⟩/\w.cell? (ak b (off+(i+j)*3))=some c0/\w.cell? (ak b (off+(i+j)*3+1))=some c1/\w.cell? (ak b (off+(i+j)*3+2))=some c2/\jX w c0 c1 c2 k
 |[],_,_,_,_,hk=>by simp at hk
 |k::l,i,j,k',h,hk=>by
  unfold gX at h;cases j with
  |zero=>simp at hk;subst hk;exact h.1
  |succ j=>
   have:=gX.get (i:=i+1) (j:=j) h.2 (by simpa using hk);rw[show i+1+j=i+(j+1) from by omega] at this;exact this
theorem Jo {w:ag}{o:Option Addr}:∀{l:List Nd} {i:Nat},(∀j k,l[j]? =some k->∃b off c0 c1 c2,o=some ⟨b,off,none⟩/\w.cell? (ak b (off+(i+j)*3))=some c0/\w.cell? (ak b (off+(i+j)*3+1))=some c1/\w.cell? (ak b (off+(i+j)*3+2))=some c2/\jX w c0 c1 c2 k)->gX w o i l
 |[],_,_=>by unfold gX;trivial
 |k::l,i,h=>by
  unfold gX;refine⟨h 0 k rfl,Jo fun j k' hk=>?_⟩;have:=h (j+1) k' (by simpa using hk);rw[show i+(j+1)=i+1+j from by omega] at this;exact this
theorem zh {α:Type}{P:Nat->α->Prop}:∀(n:Nat),(∀i,i<n->∃x,P i x)->∃l:List α,l.length=n/\∀i x,l[i]? =some x->P i x
 |0,_=>⟨[],rfl,fun i x h=>by simp at h⟩
 |n+1,h=>by
  obtain⟨l,hl,hP⟩:=zh n (fun i hi=>h i (by omega));obtain⟨x,hx⟩:=h n (by omega);refine⟨l++[x],by simp[hl],fun i y hy=>?_⟩;rcases Nat.lt_or_ge i n with hi|hi
  ·rw[List.getElem?_append_left (by omega)] at hy;exact hP i y hy
  ·rw[List.getElem?_append_right (by omega)] at hy;have:i-l.length=0:=by
    rcases Nat.eq_zero_or_pos (i-l.length) with e|e
    ·exact e
    ·rw[List.getElem?_eq_none (by simp;omega)] at hy;cases hy
   rw[this] at hy;simp at hy;subst hy;obtain rfl:i=n:=by omega
   exact hx
theorem Ey {w:ag}{base:Nat}{a:Addr}{cs:List ah}(h:w.cells? base a 2=some cs):∃b off c0 c1,a=⟨b,off,none⟩/\cs=[c0,c1]/\w.cell? (ak b off)=some c0/\w.cell? (ak b (off+1))=some c1:=by
 unfold World.cells? at h;split at h
 ·simp only[List.range_succ,List.range_zero,List.nil_append,List.cons_append,List.mapM_cons,List.mapM_nil] at h;cases h0:w.cell? (a.add 0) with
  |none=>simp[h0] at h
  |some c0=>
   cases h1:w.cell? (a.add 1) with
   |none=>simp[h0,h1] at h
   |some c1=>
    simp[h0,h1] at h;obtain⟨b,off,sp⟩:=a;cases sp with
    |some s=>
     simp[Addr.add,World.cell?] at h0;split at h0<;>cases h0
    |none=>exact⟨b,off,c0,c1,rfl,h.symm,by simpa[Addr.add] using h0,by simpa[Addr.add] using h1⟩
 ·cases h
theorem yw {w:ag}{base:Nat}{a:Addr}{cs:List ah}(h:w.cells? base a 3=some cs):∃b off c0 c1 c2,a=⟨b,off,none⟩/\cs=[c0,c1,c2]/\w.cell? (ak b off)=some c0/\w.cell? (ak b (off+1))=some c1/\w.cell? (ak b (off+2))=some c2:=by
 unfold World.cells? at h;split at h
 ·simp only[List.range_succ,List.range_zero,List.nil_append,List.cons_append,List.mapM_cons,List.mapM_nil] at h;cases h0:w.cell? (a.add 0) with
  |none=>simp[h0] at h
  |some c0=>
   cases h1:w.cell? (a.add 1) with
   |none=>simp[h0,h1] at h
   |some c1=>
    cases h2:w.cell? (a.add 2) with
    |none=>simp[h0,h1,h2] at h
    |some c2=>
     simp[h0,h1,h2] at h;obtain⟨b,off,sp⟩:=a;cases sp with
     |some s=>
      simp[Addr.add,World.cell?] at h0;split at h0<;>cases h0
     |none=>exact⟨b,off,c0,c1,c2,rfl,h.symm,by simpa[Addr.add] using h0,by simpa[Addr.add] using h1,by simpa[Addr.add] using h2⟩
 ·cases h
theorem Rp:prog.cellsOf 65=2:=by kernel_rfl
theorem Ez:prog.cellsOf 25=3:=by kernel_rfl
theorem Az:prog.cellsOf 9=1:=by kernel_rfl
theorem Ml:prog.cellsOf 22=1:=by kernel_rfl
theorem Rq:prog.cellsOf 23=1:=by kernel_rfl
section
variable {H:Type}{enc:TypeId×ah->H}{w:ag}{base:Nat}{spare:Nat->Bool}{held:Bool}
theorem mY {fuel:Nat}{c:ah}{x:DataW H×List MemPlace}(h:DataW.trod enc prog w base spare held fuel 9 [c]=some x):∃s:Bs,c=fe s/\s.length<=maxLen:=by
  obtain⟨s',h1,_,hs⟩:=DataW.trod_string underlying9 h;simp at h1;subst h1;exact⟨s'.data.toList,ZN s',by rw[Ex];exact hs⟩
theorem VD {fuel:Nat}{cs:List ah}{x:DataW H×List MemPlace}(h:DataW.trod enc prog w base spare held fuel 22 cs=some x):∃v ats,cs=[v]/\jW w v ats:=by
  rcases DataW.trod_slice underlying22 h with⟨rfl,_⟩|⟨a,len,cap,elems,rest,n,_,rfl,_,_,hl,hc,hlen,hel,_⟩
  · exact⟨_,[],rfl,none,0,rfl,Nat.le_refl _,by decide,fun _=>rfl,fun i x hx=>by simp at hx⟩
  · simp only[Rp] at hel
    obtain⟨l,hll,hP⟩:=zh (α:=Bs×Bs) (P:=fun i x=>∃b off,some a=some ⟨b,off,none⟩/\w.cell? (ak b (off+i*2))=some (fe x.1)/\w.cell? (ak b (off+i*2+1))=some (fe x.2)/\x.1.length<=maxLen/\x.2.length<=maxLen) len (fun i hi=>by
      have hE:=hel i hi;obtain⟨y,hy⟩:∃y,elems[i]? =some y:=⟨elems[i],List.getElem?_eq_getElem (by omega)⟩;rw[hy] at hE;simp only[Option.bind_eq_some_iff] at hE;obtain⟨c,hc1,hc2⟩:=hE;obtain⟨b,off,c0,c1,ha,rfl,h0,h1⟩:=Ey hc1;obtain⟨y0,y1,m,_,_,f0,f1⟩:=Go.ChangeShapes.trod_struct2 underlying65 hc2;simp only[Az] at f0 f1;obtain⟨s0,rfl,l0⟩:=mY f0;obtain⟨s1,rfl,l1⟩:=mY f1;obtain⟨ab,ao,asp⟩:=a;have:asp=none:=by
        cases i with
        |zero=>simp[Addr.add] at ha;exact ha.2.2
        |succ i=>
          have h00:=hel 0 (by omega);obtain⟨y0,hy0⟩:∃y,elems[0]? =some y:=⟨elems[0],List.getElem?_eq_getElem (by omega)⟩;rw[hy0] at h00;simp only[Option.bind_eq_some_iff] at h00;obtain⟨_,hd1,_⟩:=h00;obtain⟨_,_,_,_,hb,_⟩:=Ey hd1;simp[Addr.add] at hb;exact hb.2.2
      subst this;have e:b=ab/\off=ao+i*2:=by
        unfold Addr.add at ha;split at ha<;>simp at ha<;>exact⟨ha.1.symm,by omega⟩
      obtain⟨rfl,rfl⟩:=e;exact⟨(s0,s1),_,ao,rfl,h0,h1,l0,l1⟩)
    exact⟨_,l,rfl,some a,cap,by rw[hll],by omega,hc,(fun e=>nomatch e),hP⟩
theorem Mm {t:TypeId}{f0 f1 f2:Field}{fuel:Nat}{cs:List ah}{x:DataW H×List MemPlace}{P:Program}(ht:P.underlying t=some (.struct #[f0,f1,f2]))(h:DataW.trod enc P w base spare held fuel t cs=some x):
    ∃y0 y1 y2 n,fuel=n+1/\cs.length=P.cellsOf t/\DataW.trod enc P w base spare held n f0.type ((cs.drop f0.offset).take (P.cellsOf f0.type))=some y0/\
      DataW.trod enc P w base spare held n f1.type ((cs.drop f1.offset).take (P.cellsOf f1.type))=some y1/\DataW.trod enc P w base spare held n f2.type ((cs.drop f2.offset).take (P.cellsOf f2.type))=some y2:=by
  obtain⟨xs,n,hn,rfl,hl,hlen,hf⟩:=DataW.trod_struct ht h
  match xs,hlen with
  |[y0,y1,y2],_=>exact⟨y0,y1,y2,n,hn,hl,by simpa using hf 0 f0 rfl,by simpa using hf 1 f1 rfl,by simpa using hf 2 f2 rfl⟩
theorem Pb:∀(fuel:Nat) {cs:List ah} {x:DataW H×List MemPlace},DataW.trod enc prog w base spare held fuel 25 cs=some x->∃c0 c1 c2 n,cs=[c0,c1,c2]/\jX w c0 c1 c2 n
  |fuel,cs,x,h=>by
    obtain⟨y0,y1,y2,m,rfl,hcl,f0,f1,f2⟩:=Mm underlying25 h;rw[Ez] at hcl;obtain⟨c0,c1,c2,rfl⟩:∃c0 c1 c2,cs=[c0,c1,c2]:=by
      rcases cs with _|⟨c0,_|⟨c1,_|⟨c2,_|⟨c3,cs⟩⟩⟩⟩
      all_goals first|exact⟨_,_,_,rfl⟩|simp at hcl
    simp only[Az,Ml,Rq] at f0 f1 f2;obtain⟨s0,rfl,l0⟩:=mY f0;obtain⟨v1,ats,e1,ha⟩:=VD f1;simp at e1;subst e1
    suffices hk:∃ks:List Nd,∃o cap,c2=.slice o ks.length cap/\ks.length<=cap/\cap<=maxLen/\(o=none->cap=0)/\gX w o 0 ks by
      obtain⟨ks,hk⟩:=hk;exact⟨_,_,_,.mk s0 ats ks,rfl,by unfold jX;exact⟨rfl,l0,ha,hk⟩⟩
    rcases DataW.trod_slice underlying23 f2 with⟨e2,_⟩|⟨a,len,cap,elems,rest,q,hq,e2,_,_,hl,hc,hlen,hel,_⟩
    · simp at e2
      subst e2;exact⟨[],none,0,rfl,Nat.le_refl _,by decide,fun _=>rfl,by unfold gX;trivial⟩
    · simp at e2
      subst e2;simp only[Ez] at hel;have sp:0<len->a.spot=none:=fun h0=>by
        have h00:=hel 0 h0;obtain⟨y0,hy0⟩:∃y,elems[0]? =some y:=⟨elems[0],List.getElem?_eq_getElem (by omega)⟩;rw[hy0] at h00;simp only[Option.bind_eq_some_iff] at h00;obtain⟨_,hd1,_⟩:=h00;obtain⟨_,_,_,_,_,hb,_⟩:=yw hd1;simp[Addr.add] at hb;rw[hb]
      obtain⟨l,hll,hP⟩:=zh (α:=Nd) (P:=fun i k=>∃b off c0 c1 c2,some a=some ⟨b,off,none⟩/\w.cell? (ak b (off+i*3))=some c0/\w.cell? (ak b (off+i*3+1))=some c1/\w.cell? (ak b (off+i*3+2))=some c2/\jX w c0 c1 c2 k) len (fun i hi=>by
        have hE:=hel i hi;obtain⟨y,hy⟩:∃y,elems[i]? =some y:=⟨elems[i],List.getElem?_eq_getElem (by omega)⟩;rw[hy] at hE;simp only[Option.bind_eq_some_iff] at hE;obtain⟨c,hc1,hc2⟩:=hE;obtain⟨b,off,d0,d1,d2,hb,rfl,h0,h1,h2⟩:=yw hc1;obtain⟨e0,e1,e2,k,he,hk⟩:=Pb q hc2;simp at he;obtain⟨rfl,rfl,rfl⟩:=he;have hs:=sp (by omega);obtain⟨ab,ao,asp⟩:=a;simp at hs;subst hs;have e:b=ab/\off=ao+i*3:=by
          unfold Addr.add at hb;split at hb<;>simp at hb<;>exact⟨hb.1.symm,by omega⟩
        obtain⟨rfl,rfl⟩:=e;exact⟨k,_,ao,d0,d1,d2,rfl,h0,h1,h2,hk⟩)
      exact⟨l,some a,cap,by rw[hll],by omega,hc,(fun e=>nomatch e),Jo (fun j k hk=>by rw[show 0+j=j from by omega];exact hP j k hk)⟩
  termination_by fuel=>fuel
  decreasing_by omega
end
theorem bq:maxLen=9223372036854775807:=by decide
def atV (x:Bs×Bs):ah:=.agg #[fe x.1,fe x.2]
theorem aG {W A w:ag}(h:Below W.heap.size W A)(hb:Below A.heap.size A w):Below W.heap.size W w:=h.trans (hb.mono h.size)
theorem dQ {W:ag}{a:Addr}{v:ah}(o:Obj)(h:W.cell? a=some v):(W.alloc o).cell? a=some v:=(((Below.refl W.heap.size W).alloc ai o).cell (az h)).trans h
theorem FM (x:Bs×Bs)(nm:Bs)(B:Nat)(W:ag)(hB:W.cell? (ak B 0)=some (fe nm)):
  ax 165 #[atV x,ay B] W fun e w'=>e=.returned (.bool (x.1==nm))/\Below W.heap.size W w':=by
 have hB':=fun o=>dQ o hB;unfold atV fe at*;go_enter func165,ntmps165;go_wp2;go_ret;exact⟨rfl,(Below.refl _ W).alloc ai _⟩
def fI (nm:Bs):Nat->List (Bs×Bs)->Int
 |_,[]=> -1
 |k,x::r=>if(x.1==nm)=true then k else fI nm (k+1) r
theorem VE (nm:Bs):∀(l:List (Bs×Bs)) (k:Nat),decide (0<=fI nm k l)=l.any (fun x=>x.1==nm)
 |[],_=>rfl
 |x::r,k=>by
  unfold fI;cases hx:(x.1==nm) with
  |true=>simp[hx]
  |false=>simp only[Bool.false_eq_true,if_false,List.any_cons,hx,Bool.false_or];exact VE nm r (k+1)
theorem drop_at {α:Type}{l:List α}{k:Nat}(h:k<l.length):∃x,l[k]? =some x/\l.drop k=x::l.drop (k+1):=⟨l[k],List.getElem?_eq_getElem h,(List.getElem_cons_drop h).symm⟩
theorem Db (ats:List (Bs×Bs))(nm:Bs)(B:Nat)(v:ah)(W:ag)(h:jW W v ats)(hB:W.cell? (ak B 0)=some (fe nm)):
  ax 67 #[v,.func (.func 165) #[] #[ay B]] W fun e w'=>e=.returned (aa (fI nm 0 ats))/\Below W.heap.size W w':=by
 obtain⟨o,cap,rfl,h1,h2,h3,h4⟩:=h;have hlen:(ats.length:Int)<=9223372036854775807:=by rw[bq] at h2;omega
 by_cases h0:ats.length=0
 ·obtain rfl:ats=[]:=List.length_eq_zero_iff.1 h0;clear h4;go_enter func67,ntmps67;go_wp2_with fail
  go_loopw [8] (fun y wr=>y=aa 0/\wr=W) (fun _ _=>0)
  case atStart=>exact⟨rfl,rfl⟩
  case round=>
   obtain⟨rfl,rfl⟩:=hrel;go_wp2_with fail;go_ret;exact⟨rfl,Below.refl _ _⟩
 ·obtain⟨x0,hx0, -⟩:=drop_at (l:=ats) (k:=0) (by omega);obtain⟨b,off,rfl, -⟩:=h4 0 x0 hx0;have H4:=aj h4;clear h4 hx0 h3 x0;go_enter func67,ntmps67;go_wp2_with fail
  go_loopw [8] (fun y wr=>∃k:Nat,k<=ats.length/\y=aa k/\fI nm 0 ats=fI nm k (ats.drop k)/\Below W.heap.size W wr) (fun y _=>ats.length-(intOf y).toNat)
  case atStart=>exact⟨0,Nat.zero_le _,rfl,rfl,Below.refl _ _⟩
  case round=>
   obtain⟨k,hk,rfl,hf,hb⟩:=hrel;by_cases hlt:k<ats.length
   ·have hlt':(k:Int)<(ats.length:Int):=by omega
    obtain⟨x,hx,hd⟩:=drop_at hlt;obtain⟨b',off',e,c0,c1, -⟩:=H4.out k x hx;simp only[Option.some.injEq,Addr.mk.injEq,and_true] at e;obtain⟨rfl,rfl⟩:=e;have k0:=(hb.cell (az c0)).trans c0;have k1:=(hb.cell (az c1)).trans c1;have hB1:=(hb.cell (az hB)).trans hB;have HS:=FM x nm B wr hB1;rw[hd] at hf;clear c0 c1 hx hd;unfold fe at k0 k1;cases hs:(x.1==nm) with
    |true=>
     rw[hs] at HS;have hf':Hid (fI nm 0 ats=k):=(by rw[hf];unfold fI;rw[if_pos hs]:fI nm 0 ats=k);clear hf hs;go_wp2_with(go_at_call 165;refine HS.mono ?_;rintro e w1 ⟨rfl,hb1⟩);go_ret;exact⟨by rw[hf'.out];rfl,aG hb hb1⟩
    |false=>
     rw[hs] at HS;have hf0:fI nm k (x::ats.drop (k+1))=fI nm (k+1) (ats.drop (k+1)):=by rw[fI,if_neg (by rw[hs];simp)]
     have hf':Hid (fI nm 0 ats=fI nm (k+1) (ats.drop (k+1))):=hf.trans hf0;clear hf0;clear hf hs;go_wp2_with(go_at_call 165;refine HS.mono ?_;rintro e w1 ⟨rfl,hb1⟩)
     go_roundw
     case rel=>exact⟨k+1,by omega,by go_num,hf'.out,aG hb hb1⟩
     case measure=>simp[intOf];omega
   ·obtain rfl:k=ats.length:=by omega
    have hf':Hid (fI nm 0 ats= -1):=(by rw[hf,List.drop_length];rfl:fI nm 0 ats= -1);clear hf;go_wp2_with fail;go_ret;exact⟨by rw[hf'.out];rfl,hb⟩
theorem wX (ats:List (Bs×Bs))(nm:Bs)(B:Nat)(v:ah)(W:ag)(h:jW W v ats)(hB:W.cell? (ak B 0)=some (fe nm)):
  ax 164 #[v,.func (.func 165) #[] #[ay B]] W fun e w'=>e=.returned (.bool (ats.any (fun x=>x.1==nm)))/\Below W.heap.size W w':=by
 have HI:=Db ats nm B v W h hB;rw[<- VE nm ats 0];generalize fI nm 0 ats=z at HI⊢;go_enter func164,ntmps164;go_wp2_with(go_at_call 67;refine HI.mono ?_;rintro e w1 ⟨rfl,hb1⟩);go_ret;exact⟨rfl,hb1⟩
structure CE (E:Nat->Addr)(w:ag):Prop where
 c4:w.cell? (ak 4 0)=some (.iface 390 (.pointer (some (E 4))))
 c6:w.cell? (ak 9 0)=some (.iface 390 (.pointer (some (E 6))))
 c7:w.cell? (ak 2 0)=some (.iface 390 (.pointer (some (E 7))))
 c8:w.cell? (ak 7 0)=some (.iface 390 (.pointer (some (E 8))))
 c10:w.cell? (ak 8 0)=some (.iface 390 (.pointer (some (E 10))))
theorem CE.below {E:Nat->Addr}{w w':ag}(h:CE E w)(hb:Below w.heap.size w w'):CE E w' where
 c4:=(hb.cell (az h.c4)).trans h.c4
 c6:=(hb.cell (az h.c6)).trans h.c6
 c7:=(hb.cell (az h.c7)).trans h.c7
 c8:=(hb.cell (az h.c8)).trans h.c8
 c10:=(hb.cell (az h.c10)).trans h.c10
structure ME (E:Nat->Addr)(w:ag):Prop where
 c2:w.cell? (ak 0 0)=some (.iface 390 (.pointer (some (E 2))))
 c4:w.cell? (ak 4 0)=some (.iface 390 (.pointer (some (E 4))))
 c6:w.cell? (ak 9 0)=some (.iface 390 (.pointer (some (E 6))))
 c7:w.cell? (ak 2 0)=some (.iface 390 (.pointer (some (E 7))))
 c8:w.cell? (ak 7 0)=some (.iface 390 (.pointer (some (E 8))))
 c10:w.cell? (ak 8 0)=some (.iface 390 (.pointer (some (E 10))))
theorem ME.below {E:Nat->Addr}{w w':ag}(h:ME E w)(hb:Below w.heap.size w w'):ME E w' where
 c2:=(hb.cell (az h.c2)).trans h.c2
 c4:=(hb.cell (az h.c4)).trans h.c4
 c6:=(hb.cell (az h.c6)).trans h.c6
 c7:=(hb.cell (az h.c7)).trans h.c7
 c8:=(hb.cell (az h.c8)).trans h.c8
 c10:=(hb.cell (az h.c10)).trans h.c10
theorem ME.ce {E:Nat->Addr}{w:ag}(h:ME E w):CE E w:=⟨h.c4,h.c6,h.c7,h.c8,h.c10⟩
def Rs (E:Nat->Addr)(c:Nat):ah:=if c=0 then .nilIface else .iface 390 (.pointer (some (E c)))
theorem qY (E:Nat->Addr):Rs E 0=.nilIface:=rfl
theorem iM (E:Nat->Addr){c:Nat}(h:c≠0):Rs E c=.iface 390 (.pointer (some (E c))):=by unfold Rs;rw[if_neg h]
def Pd (ahead:List (Bs×Bs))(a:Bs×Bs):Nat:=if fP a.1=true then(if ahead.any (fun x=>x.1==a.1)=true then 6 else if isVal a.2=true then 0 else 10) else 4
theorem di (W:ag)(o:Obj):Below W.heap.size W (W.alloc o):=(Below.refl W.heap.size W).alloc ai o
theorem gP (W:ag)(cs:Array ah)(t:TypeId)(i:Nat)(v:ah)(h:cs[i]? =some v):(W.alloc (.cells cs t)).cell? ⟨W.heap.size,i,none⟩=some v:=by
 have e:(W.alloc (.cells cs t)).heap[W.heap.size]? =some (.cells cs t):=by show(W.heap.push (.cells cs t))[W.heap.size]? =_;simp
 unfold World.cell?;simp only[e];simpa using h
theorem sw (E:Nat->Addr)(a:Bs×Bs)(ats:List (Bs×Bs))(v:ah)(W:ag)(hE:CE E W)(h:jW W v ats)(l1:a.1.length<=maxLen)(l2:a.2.length<=maxLen):
  ax 120 #[atV a,v] W fun e w'=>e=.returned (Rs E (Pd ats a))/\Below W.heap.size W w':=by
 have b0:=di W (.cells #[.string ⟨a.1.toArray⟩,.string ⟨a.2.toArray⟩] 65);have n0:=gP W #[.string ⟨a.1.toArray⟩,.string ⟨a.2.toArray⟩] 65 0 _ rfl;have n1:=gP W #[.string ⟨a.1.toArray⟩,.string ⟨a.2.toArray⟩] 65 1 _ rfl;have HN:=gm ⟨a.1.toArray⟩ (by rw[dS,<- bq];exact l1) (W.alloc (.cells #[.string ⟨a.1.toArray⟩,.string ⟨a.2.toArray⟩] 65));have HC:=wX ats a.1 W.heap.size v _ (h.below b0) n0;have HV:=fun V=>yu ⟨a.2.toArray⟩ (by rw[dS,<- bq];exact l2) V;have hE1:=hE.below b0;obtain⟨o,cap,rfl,_,_,_,_⟩:=h;have e4:=hE1.c4;unfold Pd;unfold atV fe;cases hn:fP a.1 with
 |false=>
  rw[show fP (⟨a.1.toArray⟩:aD).data.toList=false from hn] at HN;rw[if_neg (by simp),iM E (by decide)];clear HC HV n1;go_enter func120,ntmps120;go_wp2_with(go_at_call 102;refine HN.mono ?_;rintro e w1 ⟨rfl,rfl⟩);go_ret;exact⟨rfl,b0⟩
 |true=>
  rw[show fP (⟨a.1.toArray⟩:aD).data.toList=true from hn] at HN;rw[if_pos rfl];cases ha:ats.any (fun x=>x.1==a.1) with
  |true=>
   rw[ha] at HC;rw[if_pos rfl,iM E (by decide)];clear HV n1 e4;go_enter func120,ntmps120;go_wp2_with(first|(go_at_call 102;refine HN.mono ?_;rintro e w1 ⟨rfl,rfl⟩)|(go_at_call 164;refine HC.mono ?_;rintro e w2 ⟨rfl,hb2⟩;have e6:=(hE1.below hb2).c6));go_ret;exact⟨rfl,aG b0 hb2⟩
  |false=>
   rw[ha] at HC;rw[if_neg (by simp)];cases hv:isVal a.2 with
   |true=>
    rw[show isVal (⟨a.2.toArray⟩:aD).data.toList=true from hv] at HV;rw[if_pos rfl,qY];clear e4;go_enter func120,ntmps120;go_wp2_with(first|(go_at_call 102;refine HN.mono ?_;rintro e w1 ⟨rfl,rfl⟩)|(go_at_call 164;refine HC.mono ?_;rintro e w2 ⟨rfl,hb2⟩;have k1:=(hb2.cell (az n1)).trans n1)|(go_at_call 111;refine(HV _).mono ?_;rintro e w3 ⟨rfl,rfl⟩));go_ret;exact⟨rfl,aG b0 hb2⟩
   |false=>
    rw[show isVal (⟨a.2.toArray⟩:aD).data.toList=false from hv] at HV;rw[if_neg (by simp),iM E (by decide)];clear e4;go_enter func120,ntmps120;go_wp2_with(first|(go_at_call 102;refine HN.mono ?_;rintro e w1 ⟨rfl,rfl⟩)|(go_at_call 164;refine HC.mono ?_;rintro e w2 ⟨rfl,hb2⟩;have k1:=(hb2.cell (az n1)).trans n1;have e10:=(hE1.below hb2).c10)|(go_at_call 111;refine(HV _).mono ?_;rintro e w3 ⟨rfl,rfl⟩));go_ret;exact⟨rfl,aG b0 hb2⟩
end
section
open Go.RowKit
set_option maxRecDepth 20000
def Cz:List (Bs×Bs)->List (Bs×Bs)->Nat
 |_,[]=>0
 |pre,a::r=>if Pd pre a=0 then Cz (pre++[a]) r else Pd pre a
def ck1 (nm:Bs)(ats:List (Bs×Bs))(deep ahead:Nat):Nat:=if 10<deep then 8 else if 100<=ahead then 7 else if fP nm=true then(if 12<ats.length then 7 else Cz [] ats) else 4
theorem VF {ats:List (Bs×Bs)}{k:Nat}{x:Bs×Bs}(hx:ats[k]? =some x)(hd:ats.drop k=x::ats.drop (k+1))(h:Pd (ats.take k) x=0):Cz (ats.take k) (ats.drop k)=Cz (ats.take (k+1)) (ats.drop (k+1)):=by
 rw[hd,Cz,if_pos h,List.take_add_one,hx];rfl
theorem jW.take {w:ag}{b off cap:Nat}{ats:List (Bs×Bs)}(k:Nat)(hk:k<=ats.length)(hc:ats.length<=cap)(hm:cap<=maxLen)(h:Ay w (some ⟨b,off,none⟩) ats):jW w (.slice (some ⟨b,off,none⟩) k cap) (ats.take k):=
 ⟨some ⟨b,off,none⟩,cap,by rw[List.length_take,Nat.min_eq_left hk],by rw[List.length_take];omega,hm,(fun e=>nomatch e),fun i x hx=>h i x (by rw[List.getElem?_take] at hx;split at hx;exact hx;cases hx)⟩
theorem Rt (E:Nat->Addr)(nm:Bs)(ats:List (Bs×Bs))(nk dW cap b off:Nat)(ok:Option Addr)(deep ahead:Nat)(W:ag)(hE:CE E W)(h4:Ay W (some ⟨b,off,none⟩) ats)(hc:ats.length<=cap)(hm:cap<=maxLen)(hl:nm.length<=maxLen)
  (hd:deep<=10) (ha:ahead<100) (hn:fP nm=true) (h12:ats.length<=12):
  ax 75 #[.agg #[fe nm,.slice (some ⟨b,off,none⟩) ats.length cap,.slice ok nk dW],aa deep,aa ahead] W fun e w'=>e=.returned (Rs E (Cz [] ats))/\Below W.heap.size W w':=by
 have b0:=di W (.cells #[.string ⟨nm.toArray⟩,.slice (some ⟨b,off,none⟩) ats.length cap,.slice ok nk dW] 25);have n0:=gP W #[.string ⟨nm.toArray⟩,.slice (some ⟨b,off,none⟩) ats.length cap,.slice ok nk dW] 25 0 (.string ⟨nm.toArray⟩) rfl;have n1:=gP W #[.string ⟨nm.toArray⟩,.slice (some ⟨b,off,none⟩) ats.length cap,.slice ok nk dW] 25 1 (.slice (some ⟨b,off,none⟩) ats.length cap) rfl;have HN:=gm ⟨nm.toArray⟩ (by rw[dS,<- bq];exact hl) (W.alloc (.cells #[.string ⟨nm.toArray⟩,.slice (some ⟨b,off,none⟩) ats.length cap,.slice ok nk dW] 25));rw[show fP (⟨nm.toArray⟩:aD).data.toList=true from hn] at HN;have H4:=aj h4;have HE:=aj hE;clear h4 hE hn;unfold fe;go_enter func75,ntmps75;go_wp2_with(go_at_call 102;refine HN.mono ?_;rintro e w1 ⟨rfl,rfl⟩);clear HN;obtain⟨W1,hW1⟩:∃V,W.alloc (.cells #[.string ⟨nm.toArray⟩,.slice (some ⟨b,off,none⟩) ats.length cap,.slice ok nk dW] 25)=V:=⟨_,rfl⟩;rw[hW1] at b0 n0 n1⊢;clear hW1
 go_loopw [33] (fun y wr=>∃k:Nat,k<=ats.length/\y=aa k/\Cz [] ats=Cz (ats.take k) (ats.drop k)/\Below W1.heap.size W1 wr) (fun y _=>ats.length-(intOf y).toNat)
 case atStart=>exact⟨0,Nat.zero_le _,rfl,rfl,Below.refl _ _⟩
 case round=>
  obtain⟨k,hk,rfl,hf,hb⟩:=hrel;have HF:=aj hf;clear hf;by_cases hlt:k<ats.length
  ·have hlt':(k:Int)<(ats.length:Int):=by omega
   have hkc:(k:Int)<=(cap:Int):=by omega
   obtain⟨x,hx,hdr⟩:=drop_at hlt;obtain⟨b',off',e,c0,c1,l1,l2⟩:=H4.out k x hx;simp only[Option.some.injEq,Addr.mk.injEq,and_true] at e;obtain⟨rfl,rfl⟩:=e;have bw:=aG b0 hb;have k0:=(bw.cell (az c0)).trans c0;have k1:=(bw.cell (az c1)).trans c1;have m1:=(hb.cell (az n1)).trans n1;clear c0 c1;unfold fe at k0 k1;have HX:Hid (ats[k]? =some x/\ats.drop k=x::ats.drop (k+1)):=⟨hx,hdr⟩;clear hx hdr;have q0:=gP wr #[.string ⟨x.1.toArray⟩,.string ⟨x.2.toArray⟩] 65 0 (.string ⟨x.1.toArray⟩) rfl;have q1:=gP wr #[.string ⟨x.1.toArray⟩,.string ⟨x.2.toArray⟩] 65 1 (.string ⟨x.2.toArray⟩) rfl;have q2:=dQ (.cells #[.string ⟨x.1.toArray⟩,.string ⟨x.2.toArray⟩] 65) m1;have bU:=di wr (.cells #[.string ⟨x.1.toArray⟩,.string ⟨x.2.toArray⟩] 65);go_upto_region 12 with fail;obtain⟨U,hU⟩:∃V,wr.alloc (.cells #[.string ⟨x.1.toArray⟩,.string ⟨x.2.toArray⟩] 65)=V:=⟨_,rfl⟩;rw[hU] at q0 q1 q2 bU⊢;clear hU k0 k1 m1;have hl1:=l1;have hl2:=l2;by_cases hz:Pd (ats.take k) x=0
   ·have qA:∀d os,ax 120 #[.agg #[.string ⟨x.1.toArray⟩,.string ⟨x.2.toArray⟩],.slice (some ⟨b,off,none⟩) k cap] (Go.Sort.grow (redrawn U d) os) fun e w''=>e=.returned .nilIface/\∃p:Regrown,w''=Go.Sort.grow (redrawn U p.d) p.os:=fun d os=>by
     have:=sw E x (ats.take k) (.slice (some ⟨b,off,none⟩) k cap) (Go.Sort.grow (redrawn U d) os) (HE.out.below (aG (aG bw bU) (below_regrown U d os))) (jW.take k hk hc hm (H4.out.below (aG (aG bw bU) (below_regrown U d os)))) hl1 hl2;rw[hz,qY] at this;exact Calls.regrown_of this
    have HZ:Hid (Cz [] ats=Cz (ats.take (k+1)) (ats.drop (k+1))):=HF.out.trans (VF HX.out.1 HX.out.2 hz);clear hz l1 l2 hl1 hl2;have r0:=cell_regrown q0;have r1:=cell_regrown q1;have r2:=cell_regrown q2;refine wp_region_quiet_below (by kernel_rfl) (by kernel_rfl) ?_
    repeat(quiet_step (first|(go_at_call 120;exact qA _ _)))
    refine wpQuiet_nil ?_;intro _ hw';obtain⟨pq,hw''⟩:=hw';subst hw'';clear r0 r1 r2 qA q0 q1 q2;have xP:=aG (aG hb bU) (below_regrown U pq.d pq.os);generalize Go.Sort.grow (redrawn U pq.d) pq.os=V at xP⊢;go_wp2_with fail
    go_roundw
    case rel=>exact⟨k+1,by omega,by go_num,HZ.out,xP⟩
    case measure=>simp[intOf];omega
   ·have qA:∀d os,ax 120 #[.agg #[.string ⟨x.1.toArray⟩,.string ⟨x.2.toArray⟩],.slice (some ⟨b,off,none⟩) k cap] (Go.Sort.grow (redrawn U d) os) fun e w''=>e=.returned (.iface 390 (.pointer (some (E (Pd (ats.take k) x)))))/\∃p:Regrown,w''=Go.Sort.grow (redrawn U p.d) p.os:=fun d os=>by
     have:=sw E x (ats.take k) (.slice (some ⟨b,off,none⟩) k cap) (Go.Sort.grow (redrawn U d) os) (HE.out.below (aG (aG bw bU) (below_regrown U d os))) (jW.take k hk hc hm (H4.out.below (aG (aG bw bU) (below_regrown U d os)))) hl1 hl2;rw[iM E hz] at this;exact Calls.regrown_of this
    have HZ:Hid (Cz [] ats=Pd (ats.take k) x):=(by rw[HF.out,HX.out.2,Cz,if_neg hz]:Cz [] ats=Pd (ats.take k) x);have HP:=aj hz;clear hz l1 l2 hl1 hl2;generalize Pd (ats.take k) x=z at qA HZ HP;have r0:=cell_regrown q0;have r1:=cell_regrown q1;have r2:=cell_regrown q2;refine wp_region_quiet_below (by kernel_rfl) (by kernel_rfl) ?_
    repeat(quiet_step (first|(go_at_call 120;exact qA _ _)))
    refine wpQuiet_nil ?_;intro _ hw';obtain⟨pq,hw''⟩:=hw';subst hw'';clear r0 r1 r2 qA q0 q1 q2;have xP:=aG (aG bw bU) (below_regrown U pq.d pq.os);generalize Go.Sort.grow (redrawn U pq.d) pq.os=V at xP⊢;go_wp2_with fail;go_ret;exact⟨by rw[HZ.out,iM E HP.out];rfl,xP⟩
  ·obtain rfl:k=ats.length:=by omega
   have hz:Hid (Cz [] ats=0):=(by rw[HF.out,List.drop_length];rfl:Cz [] ats=0);go_wp2_with fail;go_ret;exact⟨by rw[hz.out];rfl,aG b0 hb⟩
theorem FP (E:Nat->Addr)(nm:Bs)(ats:List (Bs×Bs))(ks:List Nd)(c1 c2:ah)(deep ahead:Nat)(W:ag)(hE:CE E W)(h:jX W (fe nm) c1 c2 (.mk nm ats ks))(hdp:deep<=1000)(hah:ahead<=1000):
  ax 75 #[.agg #[fe nm,c1,c2],aa deep,aa ahead] W fun e w'=>e=.returned (Rs E (ck1 nm ats deep ahead))/\Below W.heap.size W w':=by
 unfold jX at h;obtain⟨-,hl,⟨o,cap,rfl,hc,hm,h0,h4⟩,ok,dW,rfl, -⟩:=h;generalize ks.length=nk;have b0:=di W (.cells #[.string ⟨nm.toArray⟩,.slice o ats.length cap,.slice ok nk dW] 25);have n0:=gP W #[.string ⟨nm.toArray⟩,.slice o ats.length cap,.slice ok nk dW] 25 0 (.string ⟨nm.toArray⟩) rfl;have n1:=gP W #[.string ⟨nm.toArray⟩,.slice o ats.length cap,.slice ok nk dW] 25 1 (.slice o ats.length cap) rfl;have HN:=gm ⟨nm.toArray⟩ (by rw[dS,<- bq];exact hl) (W.alloc (.cells #[.string ⟨nm.toArray⟩,.slice o ats.length cap,.slice ok nk dW] 25));have hE1:=hE.below b0;have hm':(ats.length:Int)<=9223372036854775807:=by rw[bq] at hm;omega
 unfold ck1;by_cases g1:10<deep
 ·rw[if_pos g1,iM E (by decide)];have g1':10<(deep:Int):=by omega
  have e8:=hE1.c8;clear HN n1 n0;unfold fe;go_enter func75,ntmps75;go_wp2_with fail;go_ret;exact⟨rfl,b0⟩
 ·rw[if_neg g1];have g1':(deep:Int)<=10:=by omega
  by_cases g2:100<=ahead
  ·rw[if_pos g2,iM E (by decide)];have g2':100<=(ahead:Int):=by omega
   have e7:=hE1.c7;clear HN n1 n0;unfold fe;go_enter func75,ntmps75;go_wp2_with fail;go_ret;exact⟨rfl,b0⟩
  ·rw[if_neg g2];have g2':(ahead:Int)<100:=by omega
   cases hn:fP nm with
   |false=>
    rw[show fP (⟨nm.toArray⟩:aD).data.toList=false from hn] at HN;rw[if_neg (by simp),iM E (by decide)];have e4:=hE1.c4;clear n1;unfold fe;go_enter func75,ntmps75;go_wp2_with(go_at_call 102;refine HN.mono ?_;rintro e w1 ⟨rfl,rfl⟩);go_ret;exact⟨rfl,b0⟩
   |true=>
    rw[show fP (⟨nm.toArray⟩:aD).data.toList=true from hn] at HN;rw[if_pos rfl];by_cases g3:12<ats.length
    ·rw[if_pos g3,iM E (by decide)];have g3':12<(ats.length:Int):=by omega
     have e7:=hE1.c7;unfold fe;go_enter func75,ntmps75;go_wp2_with(go_at_call 102;refine HN.mono ?_;rintro e w1 ⟨rfl,rfl⟩);go_ret;exact⟨rfl,b0⟩
    ·rw[if_neg g3];by_cases hz:ats.length=0
     ·obtain rfl:ats=[]:=List.length_eq_zero_iff.1 hz;rw[show Cz [] []=0 from rfl,qY];clear h4 hm';unfold fe;go_enter func75,ntmps75;go_wp2_with(go_at_call 102;refine HN.mono ?_;rintro e w1 ⟨rfl,rfl⟩)
      go_loopw [33] (fun y wr=>y=aa 0/\Below W.heap.size W wr) (fun _ _=>0)
      case atStart=>exact⟨rfl,b0⟩
      case round=>
       obtain⟨rfl,hb⟩:=hrel;go_wp2_with fail;go_ret;exact⟨rfl,hb⟩
     ·obtain⟨x0,hx0, -⟩:=drop_at (l:=ats) (k:=0) (by omega);obtain⟨b,off,rfl, -⟩:=h4 0 x0 hx0;exact Rt E nm ats nk dW cap b off ok deep ahead W hE h4 hc hm hl (by omega) (by omega) hn (by omega)
structure dA (b:Nat)(W w:ag):Prop where
 os:w.os=W.os
 tape:w.tape=W.tape
 output:w.output=W.output
 size:W.heap.size<=w.heap.size
 block:∀k,k<W.heap.size->k≠b->w.heap[k]? =W.heap[k]?
theorem dA.trans {b:Nat}{A B C:ag}(h:dA b A B)(k:dA b B C):dA b A C:=
 ⟨k.os.trans h.os,k.tape.trans h.tape,k.output.trans h.output,Nat.le_trans h.size k.size,fun i hi hb=>(k.block i (Nat.lt_of_lt_of_le hi h.size) hb).trans (h.block i hi hb)⟩
theorem dA.of_below {b:Nat}{A B:ag}(h:Below A.heap.size A B):dA b A B:=⟨h.os,h.tape,h.output,h.size,fun i hi _=>h.block i hi⟩
theorem dA.below {b n:Nat}{A B:ag}(h:dA b A B)(hb:n<=b)(hn:n<=A.heap.size):Below n A B:=⟨h.os,h.tape,h.output,h.size,fun i hi=>h.block i (by omega) (by omega)⟩
theorem dA.setCell {b:Nat}{A B:ag}(h:dA b A B)(v:ah):dA b A (B.setCell ⟨b,0,none⟩ v):=by
 have hs:=(Below.refl b B).setCell (p:=⟨b,0,none⟩) ai v;refine⟨hs.os.trans h.os,hs.tape.trans h.tape,hs.output.trans h.output,Nat.le_trans h.size hs.size,fun i hi hb=>?_⟩;exact(Below.heap_setCell _ _ _ i hb).trans (h.block i hi hb)
theorem dA.cell {b:Nat}{A B:ag}(h:dA b A B){p:Addr}{v:ah}(hp:A.cell? p=some v)(hb:p.block≠b):B.cell? p=some v:=by
 rw[<- hp];unfold World.cell?;rw[h.block p.block (az hp) hb]
theorem Pe {B:Nat}{w w':ag}{p:Addr}(hb:Below B w w')(hp:p.block<B):w'.frozen? p=w.frozen? p:=by
 unfold World.frozen?;rw[hb.block _ hp]
theorem aaP {w:ag}{b:Nat}{u v:ah}(h:w.cell? (ak b 0)=some u):(w.setCell ⟨b,0,none⟩ v).cell? (ak b 0)=some v:=by
 exact World.cell?_setCell_same w _ v h
theorem Ru {w:ag}{b:Nat}{v:ah}(h:w.frozen? ⟨b,0,none⟩=false):(w.setCell ⟨b,0,none⟩ v).frozen? ⟨b,0,none⟩=false:=by
 have:=World.frozen?_setCell w ⟨b,0,none⟩ ⟨b,0,none⟩ v;rw[this];exact h
theorem Nd.ind {P:Nd->Prop}(h:∀nm ats ks,(∀k∈ks,P k)->P (.mk nm ats ks)):∀n,P n:=by
 suffices H:(∀n,P n) by exact H
 intro n;exact Nd.rec (motive_1:=P) (motive_2:=fun l=>∀k∈l,P k) (fun nm ats ks ih=>h nm ats ks ih) (by simp) (fun k l hk hl=>by
  intro j hj;rcases List.mem_cons.1 hj with rfl|hj
  ·exact hk
  ·exact hl j hj) n
mutual
def iT:Nd->Nat->Nat->Nat×Nat
 | .mk nm ats ks,deep,ahead=>if ck1 nm ats deep ahead=0 then wo ks (deep+1) (ahead+1) else(ck1 nm ats deep ahead,ahead)
def wo:List Nd->Nat->Nat->Nat×Nat
 |[],_,ahead=>(0,ahead)
 |k::l,deep,ahead=>if(iT k deep ahead).1=0 then wo l deep (iT k deep ahead).2 else iT k deep ahead
end
theorem vv {nm:Bs}{ats:List (Bs×Bs)}{deep ahead:Nat}(h:ck1 nm ats deep ahead=0):deep<=10/\ahead<100:=by
 unfold ck1 at h;split at h
 ·cases h
 ·split at h
  ·cases h
  ·omega
mutual
theorem Mo:∀(n:Nd) (deep ahead:Nat),(iT n deep ahead).1=0->(iT n deep ahead).2<=100
 | .mk nm ats ks,deep,ahead,h=>by
  unfold iT at h⊢;split at h
  ·rename_i h1;rw[if_pos h1];exact VG ks _ _ (vv h1).2 h
  ·rename_i h1;exact(h1 h).elim
theorem VG:∀(l:List Nd) (deep ahead:Nat),ahead<=100->(wo l deep ahead).1=0->(wo l deep ahead).2<=100
 |[],deep,ahead,ha,_=>by unfold wo;exact ha
 |k::l,deep,ahead,ha,h=>by
  unfold wo at h⊢;split at h
  ·rename_i h1;rw[if_pos h1];exact VG l _ _ (Mo k _ _ h1) h
  ·rename_i h1;exact(h1 h).elim
end
theorem Jp {nm:Bs}{ats:List (Bs×Bs)}{ks:List Nd}{deep ahead:Nat}(h:ck1 nm ats deep ahead=0):iT (.mk nm ats ks) deep ahead=wo ks (deep+1) (ahead+1):=by rw[iT,if_pos h]
theorem qy {k:Nd}{l:List Nd}{deep ahead:Nat}(h:(iT k deep ahead).1=0):wo (k::l) deep ahead=wo l deep (iT k deep ahead).2:=by rw[wo,if_pos h]
theorem vw {k:Nd}{l:List Nd}{deep ahead:Nat}(h:(iT k deep ahead).1≠0):wo (k::l) deep ahead=iT k deep ahead:=by rw[wo,if_neg h]
def Flt (E:Nat->Addr)(B:Nat)(r:Nat×Nat)(e:Ending)(w:ag):Prop:=∃pb,B<=pb/\e=.returned (.iface 113 (ay pb))/\w.cell? (ak pb 0)=some (aa r.2)/\w.cell? (ak pb 1)=some (.iface 390 (.pointer (some (E r.1))))
def Chk (E:Nat->Addr)(W0:ag)(PA PW:Nat)(n:Nd):Prop:=∀(c0 c1 c2:ah) (deep ahead:Nat) (W:ag),jX W0 c0 c1 c2 n->deep<=11->ahead<=100->Below W0.heap.size W0 W->
 W.cell? (ak PA 0)=some (aa ahead)->W.frozen? ⟨PA,0,none⟩=false->W.cell? (ak PW 0)=some (.func (.func 74) #[] #[ay PA,ay PW])->
 ax 74 #[.agg #[c0,c1,c2],aa deep,ay PA,ay PW] W fun e w'=>dA PA W w'/\
  (((iT n deep ahead).1=0/\e=.returned .nilIface/\w'.cell? (ak PA 0)=some (aa (iT n deep ahead).2)/\w'.frozen? ⟨PA,0,none⟩=false)\/((iT n deep ahead).1≠0/\Flt E W.heap.size (iT n deep ahead) e w'))
theorem ZO (E:Nat->Addr)(W0:ag)(PA PW:Nat)(hE:CE E W0)(hA:W0.heap.size<=PA)(hne:PW≠PA):∀n,Chk E W0 PA PW n:=by
 refine Nd.ind fun nm ats ks ih=>?_;intro c0 c1 c2 deep ahead W hn hd ha hb cA fA cP;have hn':=hn;unfold jX at hn';obtain⟨rfl,hl,⟨o1,dR,rfl,_,_,_,_⟩,ok,dW,rfl,hkc,hkm,hk0,hks⟩:=hn';have HO:=FP E nm ats ks (.slice o1 ats.length dR) (.slice ok ks.length dW) deep ahead;have b0:=di W (.cells #[.string ⟨nm.toArray⟩,.slice o1 ats.length dR,.slice ok ks.length dW] 25);have n0:=gP W #[.string ⟨nm.toArray⟩,.slice o1 ats.length dR,.slice ok ks.length dW] 25 0 (.string ⟨nm.toArray⟩) rfl;have n2:=gP W #[.string ⟨nm.toArray⟩,.slice o1 ats.length dR,.slice ok ks.length dW] 25 2 (.slice ok ks.length dW) rfl;have cA1:=(b0.cell (az cA)).trans cA;have bW:=hb.trans (b0.mono hb.size);have HO1:=HO _ ((hE.below bW)) (jX.below bW (.mk nm ats ks) hn) (by omega) (by omega);clear HO;unfold fe at*;have ltA:=az cA;have ltP:=az cP;simp only at ltA ltP;by_cases hz:ck1 nm ats deep ahead=0
 ·rw[hz,qY] at HO1;have hr:iT (.mk nm ats ks) deep ahead=wo ks (deep+1) (ahead+1):=Jp hz;rw[hr];obtain⟨hd1,ha1⟩:=vv hz;clear hr hz;have fA1:=(Pe b0 (p:=⟨PA,0,none⟩) ltA).trans fA;have cP1:=(b0.cell (az cP)).trans cP;have a6S:(ks.length:Int)<=9223372036854775807:=by rw[bq] at hkm;omega
  have HKS:=aj hks;have IH:=aj ih;clear hks ih;go_enter func74,ntmps74;go_wp2_with(go_at_call 75;refine HO1.mono ?_;rintro e w1 ⟨rfl,hb1⟩;have cA2:=(hb1.cell (az cA1)).trans cA1;have fA2:=(Pe hb1 (p:=⟨PA,0,none⟩) (az cA1)).trans fA1;have cP2:=(hb1.cell (az cP1)).trans cP1;have m2:=(hb1.cell (az n2)).trans n2);have K1:dA PA W (w1.setCell ⟨PA,0,none⟩ (aa ((ahead:Int)+1))):=((dA.of_below b0).trans (dA.of_below hb1)).setCell _;have cA3:=aaP (v:=aa ((ahead:Int)+1)) cA2;have fA3:=Ru (v:=aa ((ahead:Int)+1)) fA2;have cP3:=dA.cell ((dA.of_below (Below.refl _ w1)).setCell (b:=PA) (aa ((ahead:Int)+1))) cP2 hne;clear HO1 cA1 cA2 fA1 fA2 cP1 cP2 m2 n2 n0 hb1 b0 bW;obtain⟨V,hV⟩:∃V,w1.setCell ⟨PA,0,none⟩ (aa ((ahead:Int)+1))=V:=⟨_,rfl⟩;rw[hV] at K1 cA3 fA3 cP3⊢;clear hV;have bV:Below W0.heap.size W0 V:=hb.trans (K1.below hA hb.size);have sV:=K1.size
  go_loopw [27] (fun y wr=>∃k a:Nat,k<=ks.length/\y=aa k/\wo ks (deep+1) (ahead+1)=wo (ks.drop k) (deep+1) a/\a<=100/\dA PA V wr/\wr.cell? (ak PA 0)=some (aa a)/\wr.frozen? ⟨PA,0,none⟩=false) (fun y _=>ks.length-(intOf y).toNat)
  case atStart=>exact⟨0,ahead+1,Nat.zero_le _,rfl,rfl,by omega,dA.of_below (Below.refl _ _),by rw[cA3];simp,fA3⟩
  case round=>
   obtain⟨k,a,hk,rfl,hf,hal,KV,cA4,fA4⟩:=hrel;have HF:=aj hf;clear hf;have cP4:=KV.cell cP3 hne;have bR:Below W0.heap.size W0 wr:=bV.trans (KV.below hA (Nat.le_trans hb.size sV));by_cases hlt:k<ks.length
   ·have hlt':(k:Int)<(ks.length:Int):=by omega
    obtain⟨kid,hx,hdr⟩:=drop_at hlt;obtain⟨b',off',d0,d1,d2,rfl,e0,e1,e2,wY⟩:=HKS.out.get hx;rw[Nat.zero_add] at e0 e1 e2;have hmem:kid∈ks:=List.mem_of_getElem? hx;have HI:=IH.out kid hmem;have Jq:=wY;obtain⟨yR,jT,ks'⟩:=kid;unfold jX at Jq;obtain⟨rfl, -,⟨o',cap',rfl, -⟩,ok',gY,rfl, -⟩:=Jq;have k0:=(bR.cell (az e0)).trans e0;have k1:=(bR.cell (az e1)).trans e1;have k2:=(bR.cell (az e2)).trans e2;unfold fe at k0 k1 k2 wY;clear e0 e1 e2 hmem;have bU:=di wr (.cells #[.string ⟨yR.toArray⟩,.slice o' jT.length cap',.slice ok' ks'.length gY] 25);have u0:=gP wr #[.string ⟨yR.toArray⟩,.slice o' jT.length cap',.slice ok' ks'.length gY] 25 0 (.string ⟨yR.toArray⟩) rfl;have u1:=gP wr #[.string ⟨yR.toArray⟩,.slice o' jT.length cap',.slice ok' ks'.length gY] 25 1 (.slice o' jT.length cap') rfl;have u2:=gP wr #[.string ⟨yR.toArray⟩,.slice o' jT.length cap',.slice ok' ks'.length gY] 25 2 (.slice ok' ks'.length gY) rfl;have cA5:=dQ (.cells #[.string ⟨yR.toArray⟩,.slice o' jT.length cap',.slice ok' ks'.length gY] 25) cA4;have cP5:=dQ (.cells #[.string ⟨yR.toArray⟩,.slice o' jT.length cap',.slice ok' ks'.length gY] 25) cP4;have fA5:=(Pe bU (p:=⟨PA,0,none⟩) (az cA4)).trans fA4;have HC:=HI _ _ _ (deep+1) a _ wY (by omega) hal (bR.trans (bU.mono bR.size)) cA5 fA5 cP5;rw[show((deep+1:Nat):Int)=(deep:Int)+1 from by omega] at HC;clear HI wY cA5 fA5;have HD:=aj hdr;clear hdr hx;generalize Nd.mk yR jT ks'=kid at HC HD;by_cases hz:(iT kid (deep+1) a).1=0
    ·have HC0:=HC.mono (R':=fun e w'=>e=.returned .nilIface/\dA PA (wr.alloc (.cells #[.string ⟨yR.toArray⟩,.slice o' jT.length cap',.slice ok' ks'.length gY] 25)) w'/\w'.cell? (ak PA 0)=some (aa (iT kid (deep+1) a).2)/\w'.frozen? ⟨PA,0,none⟩=false) (fun e w' h=>by
      rcases h.2 with h2|h2
      ·exact⟨h2.2.1,h.1,h2.2.2⟩
      ·exact(h2.1 hz).elim)
     have HS:Hid (wo ks (deep+1) (ahead+1)=wo (ks.drop (k+1)) (deep+1) (iT kid (deep+1) a).2/\(iT kid (deep+1) a).2<=100):=⟨by rw[HF.out,HD.out];exact qy hz,Mo _ _ _ hz⟩;clear HC hz;go_wp2_with(go_at_call 74;refine HC0.mono ?_;rintro e w2 ⟨rfl,K2,cA6,fA6⟩)
     go_roundw
     case rel=>exact⟨k+1,_,by omega,by go_num,HS.out.1,HS.out.2,(KV.trans (dA.of_below bU)).trans K2,cA6,fA6⟩
     case measure=>simp[intOf];omega
    ·have HCn:=HC.mono (R':=fun e w'=>dA PA (wr.alloc (.cells #[.string ⟨yR.toArray⟩,.slice o' jT.length cap',.slice ok' ks'.length gY] 25)) w'/\Flt E (wr.alloc (.cells #[.string ⟨yR.toArray⟩,.slice o' jT.length cap',.slice ok' ks'.length gY] 25)).heap.size (iT kid (deep+1) a) e w') (fun e w' h=>by
      rcases h.2 with h2|h2
      ·exact(hz h2.1).elim
      ·exact⟨h.1,h2.2⟩)
     have HS:Hid (wo ks (deep+1) (ahead+1)=iT kid (deep+1) a):=(by rw[HF.out,HD.out];exact vw hz:wo ks (deep+1) (ahead+1)=iT kid (deep+1) a);have HP:=aj hz;have sR:=KV.size;clear HC hz;generalize iT kid (deep+1) a=r at HCn HS HP;go_wp2_with(go_at_call 74;refine HCn.mono ?_;rintro e w2 ⟨K2,pb,hpb,rfl,z0,z1⟩);go_ret;refine⟨((K1.trans KV).trans (dA.of_below bU)).trans K2,.inr ?_⟩;rw[HS.out];exact⟨HP.out,pb,by simp at hpb;omega,rfl,z0,z1⟩
   ·obtain rfl:k=ks.length:=by omega
    have hz:Hid (wo ks (deep+1) (ahead+1)=(0,a)):=(by rw[HF.out,List.drop_length];unfold wo;rfl:wo ks (deep+1) (ahead+1)=(0,a));go_wp2_with fail;go_ret;exact⟨K1.trans KV,.inl (by rw[hz.out];exact⟨rfl,rfl,cA4,fA4⟩)⟩
 ·rw[iM E hz] at HO1;have hr:iT (.mk nm ats ks) deep ahead=(ck1 nm ats deep ahead,ahead):=by unfold iT;rw[if_neg hz]
  rw[hr];clear hr hks ih n2;go_enter func74,ntmps74;go_wp2_with(go_at_call 75;refine HO1.mono ?_;rintro e w1 ⟨rfl,hb1⟩;have cA2:=(hb1.cell (az cA1)).trans cA1);go_ret;have z0:=gP w1 #[aa ahead,.iface 390 (.pointer (some (E (ck1 nm ats deep ahead))))] 115 0 (aa ahead) rfl;have z1:=gP w1 #[aa ahead,.iface 390 (.pointer (some (E (ck1 nm ats deep ahead))))] 115 1 (.iface 390 (.pointer (some (E (ck1 nm ats deep ahead))))) rfl;exact⟨((dA.of_below b0).trans (dA.of_below hb1)).trans (dA.of_below (di w1 _)),.inr ⟨hz,w1.heap.size,(aG b0 hb1).size,rfl,z0,z1⟩⟩
end
section
open Go.RowKit
set_option maxRecDepth 20000
theorem oQ (P:Program)(w:ag)(a:Addr)(m:Mode)(f:Fn)(x y:Array ah):(store a (.func f x y) m).run P w=stored P w a (.func f x y) m:=run_store P w a _ m rfl
attribute [local go_sem] oQ
theorem Rv (W:ag)(cs:Array ah)(t:TypeId)(i:Nat):(W.alloc (.cells cs t)).frozen? ⟨W.heap.size,i,none⟩=false:=by
 have e:(W.alloc (.cells cs t)).heap[W.heap.size]? =some (.cells cs t):=by show(W.heap.push (.cells cs t))[W.heap.size]? =_;simp
 unfold World.frozen?;simp only[e];simp
theorem Jr (E:Nat->Addr)(n:Nd)(c0 c1 c2:ah)(W:ag)(hE:CE E W)(hn:jX W c0 c1 c2 n):
  ax 37 #[.agg #[c0,c1,c2]] W fun e w'=>Below W.heap.size W w'/\(((iT n 1 0).1=0/\e=.returned .nilIface)\/((iT n 1 0).1≠0/\Flt E W.heap.size (iT n 1 0) e w')):=by
 have HC:=ZO E W (W.heap.size+1) (W.heap.size+1+1) hE (by omega) (by omega) n;unfold Chk at HC;have hn':=hn;obtain⟨nm,ats,ks⟩:=n;unfold jX at hn';obtain⟨rfl, -,⟨o1,dR,rfl, -⟩,ok,dW,rfl, -⟩:=hn';have HC':=fun V h1=>HC (fe nm) (.slice o1 ats.length dR) (.slice ok ks.length dW) 1 0 V hn (by decide) (by decide) h1;clear HC;generalize Nd.mk nm ats ks=n at HC' hn⊢;unfold fe at*;have b1:=di W (.cells #[.string ⟨nm.toArray⟩,.slice o1 ats.length dR,.slice ok ks.length dW] 25);have n0:=gP W #[.string ⟨nm.toArray⟩,.slice o1 ats.length dR,.slice ok ks.length dW] 25 0 (.string ⟨nm.toArray⟩) rfl;have n1:=gP W #[.string ⟨nm.toArray⟩,.slice o1 ats.length dR,.slice ok ks.length dW] 25 1 (.slice o1 ats.length dR) rfl;have n2:=gP W #[.string ⟨nm.toArray⟩,.slice o1 ats.length dR,.slice ok ks.length dW] 25 2 (.slice ok ks.length dW) rfl;have a0:=gP (W.alloc (.cells #[.string ⟨nm.toArray⟩,.slice o1 ats.length dR,.slice ok ks.length dW] 25)) #[aa 0] 3 0 (aa 0) rfl;have af:=Rv (W.alloc (.cells #[.string ⟨nm.toArray⟩,.slice o1 ats.length dR,.slice ok ks.length dW] 25)) #[aa 0] 3 0;have b2:=di (W.alloc (.cells #[.string ⟨nm.toArray⟩,.slice o1 ats.length dR,.slice ok ks.length dW] 25)) (.cells #[aa 0] 3);have p0:=gP ((W.alloc (.cells #[.string ⟨nm.toArray⟩,.slice o1 ats.length dR,.slice ok ks.length dW] 25)).alloc (.cells #[aa 0] 3)) #[.func (.func 74) #[] #[.pointer (some ⟨W.heap.size+1,0,none⟩),.pointer (some ⟨W.heap.size+1+1,0,none⟩)]] 163 0 (.func (.func 74) #[] #[.pointer (some ⟨W.heap.size+1,0,none⟩),.pointer (some ⟨W.heap.size+1+1,0,none⟩)]) rfl;have b3:=di ((W.alloc (.cells #[.string ⟨nm.toArray⟩,.slice o1 ats.length dR,.slice ok ks.length dW] 25)).alloc (.cells #[aa 0] 3)) (.cells #[.func (.func 74) #[] #[.pointer (some ⟨W.heap.size+1,0,none⟩),.pointer (some ⟨W.heap.size+1+1,0,none⟩)]] 163);simp only[World.size_alloc] at a0 af p0;have a3:=(b3.cell (az a0)).trans a0;have af3:=(Pe b3 (p:=⟨W.heap.size+1,0,none⟩) (az a0)).trans af
 have m0:=(b3.cell (az ((b2.cell (az n0)).trans n0))).trans ((b2.cell (az n0)).trans n0);have m1:=(b3.cell (az ((b2.cell (az n1)).trans n1))).trans ((b2.cell (az n1)).trans n1);have m2:=(b3.cell (az ((b2.cell (az n2)).trans n2))).trans ((b2.cell (az n2)).trans n2);have bb:=aG (aG b1 b2) b3;have HV:=HC' _ bb a3 af3 p0;have sz:=bb.size;clear a0 af n0 n1 n2 b1 b2 b3 HC';go_enter func37,ntmps37;go_upto_region 4 with fail;obtain⟨V,hV⟩:∃V,((W.alloc (.cells #[.string ⟨nm.toArray⟩,.slice o1 ats.length dR,.slice ok ks.length dW] 25)).alloc (.cells #[aa 0] 3)).alloc (.cells #[.func (.func 74) #[] #[.pointer (some ⟨W.heap.size+1,0,none⟩),.pointer (some ⟨W.heap.size+1+1,0,none⟩)]] 163)=V:=⟨_,rfl⟩;rw[hV] at a3 af3 m0 m1 m2 bb HV p0 sz⊢;clear hV;have HV':=HV.mono (R':=fun e w'=>∃v,e=.returned v/\dA (W.heap.size+1) V w'/\(((iT n 1 0).1=0/\v=.nilIface)\/((iT n 1 0).1≠0/\Flt E V.heap.size (iT n 1 0) (.returned v) w'))) (fun e w' h=>by
  rcases h.2 with h2|h2
  ·exact⟨_,h2.2.1,h.1,.inl ⟨h2.1,rfl⟩⟩
  ·obtain⟨h3,pb,h4,rfl,h5⟩:=h2;exact⟨_,rfl,h.1,.inr ⟨h3,pb,h4,rfl,h5⟩⟩)
 clear HV;go_wp2_with(go_at_call 74;refine HV'.mono ?_;rintro e w1 ⟨v,rfl,K1,hr⟩);go_ret;refine⟨bb.trans (K1.below (by omega) sz),?_⟩;rcases hr with⟨h1,rfl⟩|⟨h1,pb,h2,h3,h4⟩
 ·exact .inl ⟨h1,rfl⟩
 ·exact .inr ⟨h1,pb,Nat.le_trans sz h2,h3,h4⟩
end
section
open Go.RowKit
set_option maxRecDepth 100000
theorem a1L:(prog.info? 99).map (·.size)=some 2:=by kernel_rfl
theorem a6U:liesAt prog prog.depth 99 (2/prog.cellsOf 99) 0 99 1=true:=by kernel_rfl
theorem Rw (b:Nat)(w:ag)(h0:w.cell? (ak b 0)=some (ay b)):
  ax 76 #[ay b] w fun e w'=>e=.returned (.tuple #[])/\w'=w:=by
 obtain⟨j,hj, -⟩:=Option.map_eq_some_iff.1 a1L;go_enter func76,ntmps76;go_wp2;rw[Lib.run_neq_ptr_same w _ underlying96 hj];go_wp2
 go_end0
 exact⟨rfl,rfl⟩
theorem Mq (b:Nat)(w:ag)(h0:w.cell? (ak b 0)=some (.pointer none))(hs:w.shape? b=some (99,2))(hf:w.frozen? ⟨b,0,none⟩=false):
  ax 76 #[ay b] w fun e w'=>e=.returned (.tuple #[])/\w'=w.setCell ⟨b,0,none⟩ (ay b):=by
 obtain⟨j,hj,hjs⟩:=Option.map_eq_some_iff.1 a1L;go_enter func76,ntmps76;go_wp2;rw[Lib.run_to_unsafe w ⟨b,0,none⟩ underlying96 underlying201 hj (by rw[hjs];decide) hs (Nat.zero_lt_succ 1)];simp only[Result.andThen];rw[Oper.upon_value];go_wp2;rw[run_callFunc_extern func121 (by kernel_rfl) (by kernel_rfl) (by kernel_rfl) (e:=Extern.AbiNoEscape.same) (by kernel_rfl),Lib.run_noEscape];simp only[Result.andThen];rw[Oper.upon_value];go_wp2;rw[Lib.run_from_unsafe w ⟨b,0,none⟩ underlying201 underlying96 hj hs a6U];simp only[Result.andThen];rw[Oper.upon_value];go_wp2
 go_end0
 exact⟨rfl,rfl⟩
abbrev Bd (B b:Nat)(l:Bs)(w:ag):Prop:=Lib.IsBuilderF 99 5 B b (Lib.byteCells l) w
structure ZP (B b:Nat)(w w':ag):Prop where
 low:Below B w w'
 ZQ:Lib.OthersKept 5 (some b) w w'
theorem ZP.trans {B b:Nat}{w w' w'':ag}(h:ZP B b w w')(k:ZP B b w' w''):ZP B b w w'':=⟨h.low.trans k.low,h.ZQ.trans k.ZQ⟩
theorem ZP.refl (B b:Nat)(w:ag):ZP B b w w:=⟨Below.refl _ _,Lib.OthersKept.refl _ _ _⟩
theorem VH (B b:Nat)(l:Bs)(w:ag)(h:Bd B b l w):ax 76 #[ay b] w fun e w'=>e=.returned (.tuple #[])/\Lib.BuilderAtF 99 5 B b (ay b) (Lib.byteCells l) w'/\ZP B b w w':=by
 rcases h with h|h
 ·refine(Mq b w h.cell0 h.shape h.frozen0).mono ?_;rintro e w' ⟨rfl,rfl⟩;exact⟨rfl,h.used _,(Below.refl B w).setCell (p:=⟨b,0,none⟩) h.1 _,(Lib.OthersKept.refl _ _ w).setCell ⟨b,0,none⟩ rfl _⟩
 ·refine(Rw b w h.cell0).mono ?_;rintro e w' ⟨rfl,rfl⟩;exact⟨rfl,h,ZP.refl _ _ _⟩
theorem VI:(prog.info? 5).map (fun i=>(i.zero,i.size,i.bytes))=some (some (.int .u8 0),1,1):=by kernel_rfl
theorem VJ {w:ag}{B:Nat}{e:TypeId}{v:ah}{n:Nat}{xs:List ah}(h:w.ownsRowF B e 1 v n xs):∃ao n' cap,v=.slice ao n' cap:=by
 rcases h.2 with⟨hv,_⟩|⟨g,cap,cur,fz,hv,_⟩
 ·exact⟨_,_,_,hv⟩
 ·exact⟨_,_,_,hv⟩
theorem aM {w:ag}{b:Nat}{o:Obj}(h:w.heap[b]? =some o):b<w.heap.size:=(Array.getElem?_eq_some_iff.1 h).1
theorem yS (B b:Nat)(l s:Bs)(w:ag)(h:Bd B b l w)(hl:l.length+s.length<=1000000000)(hB:B<=w.heap.size):
  ax 161 #[ay b,.string ⟨s.toArray⟩] w fun e w'=>e=.returned (.tuple #[aa s.length,.nilIface])/\Bd B b (l++s) w'/\ZP B b w w':=by
 obtain⟨i0,hi,hz0,hz1,hz2⟩:=info_parts VI;have hsz:=dS s;have hbl:(Lib.byteCells l).length=l.length:=by simp[Lib.byteCells]
 have HK:=VH B b l w h;go_enter func161,ntmps161;go_wp2_with(first|(at_builtin;refine Lib.wpList_append_own_stringF _ rfl _ _ 97 9 rfl B 5 i0 underlying97 underlying9 hi hz0 hz1 hz2 _ _ _ rfl hown ⟨s.toArray⟩ rfl (by rw[hbl,hsz,bq];omega) (by rw[hbl,hsz];omega) (by omega) ?_;intro v' w2 hown' hgrow _;have hb2:w2.heap[b]? =some (.cells #[ay b,v] 99 (0,0)):=(by rw[hgrow.block b (aM hbk) (fun e=>hne e.symm)];exact hbk);have d1:w2.cell? (ak b 1)=some v:=(by rw[Lib.cell_of_heap hb2];rfl);have f1:w2.frozen? ⟨b,1,none⟩=false:=Lib.frozen_of_heap hb2 1;obtain⟨ao,n',cap,rfl⟩:∃ao n' cap,v'=.slice ao n' cap:=VJ hown')|(go_at_call 76;refine HK.mono ?_;rintro e w1 ⟨rfl,⟨hB1,v,hbk,hown,hne⟩,hk1⟩;have c1:w1.cell? (ak b 1)=some v:=(by rw[Lib.cell_of_heap hbk];rfl);have z1:=hk1.low.size))
 go_ret2
 have ho2:w2.ownsRowF B 5 1 (.slice ao n' cap) (Lib.byteCells (l++s)).length (Lib.byteCells (l++s)):=by
  have e1:Lib.byteCells (l++s)=Lib.byteCells l++Lib.strCells ⟨s.toArray⟩:=by rw[Lib.byteCells_append];rfl
  rw[e1,List.length_append,Lib.strCells_length];exact hown'
 refine⟨rfl,.inr (Lib.BuilderAtF.put (T:=99) (e:=5) hB1 hb2 ho2 (by decide)),hk1.trans ⟨?_,?_⟩⟩
 ·exact((Below.refl B w1).grown hgrow (by omega) (fun k hk=>(hown.lt k hk).1)).setCell (p:=⟨b,1,none⟩) hB1 _
 ·exact((Lib.OthersKept.refl _ _ w1).grown hgrow (Lib.ownsRowF_kind hown)).setCell ⟨b,1,none⟩ rfl _
end
section
open Go.RowKit
theorem VK:∀(ats pre:List (Bs×Bs)),Cz pre ats=0->∀a∈ats,fP a.1=true/\isVal a.2=true
 |[],_,_,a,ha=>by simp at ha
 |x::r,pre,h,a,ha=>by
  unfold Cz at h;split at h
  ·rename_i h0;rcases List.mem_cons.1 ha with rfl|ha
   ·unfold Pd at h0;split at h0
    ·rename_i h1;split at h0
     ·cases h0
     ·split at h0
      ·rename_i h3;exact⟨h1,h3⟩
      ·cases h0
    ·cases h0
   ·exact VK r _ h a ha
  ·rename_i h0;exact(h0 h).elim
theorem VM {nm:Bs}{ats:List (Bs×Bs)}{deep ahead:Nat}(h:ck1 nm ats deep ahead=0):fP nm=true/\ats.length<=12/\∀a∈ats,fP a.1=true/\isVal a.2=true:=by
 unfold ck1 at h;split at h
 ·cases h
 ·split at h
  ·cases h
  ·split at h
   ·rename_i hn;split at h
    ·cases h
    ·exact⟨hn,by omega,VK ats [] h⟩
   ·cases h
theorem Bd.al {B b:Nat}{l:Bs}{w:ag}(h:Bd B b l w)(o:Obj):Bd B b l (w.alloc o):=Lib.IsBuilderF.alloc h o
theorem cZ (w:ag)(cs:Array ah)(t:TypeId):(w.alloc (.cells cs t)).heap[w.heap.size]? =some (.cells cs t):=by show(w.heap.push (.cells cs t))[w.heap.size]? =_;simp
theorem aF {w:ag}{N:Nat}{cs:Array ah}{t:TypeId}(h:w.heap[N]? =some (.cells cs t))(i:Nat)(v:ah)(hv:cs[i]? =some v):w.cell? (ak N i)=some v:=by
 unfold World.cell?;simp only[h];simpa using hv
theorem vz {s:Bs}(h:fP s=true):s.length<=12:=by
 cases s with
 |nil=>simp
 |cons c r=>simp only[fP,Bool.and_eq_true,decide_eq_true_eq] at h;exact h.1.1
theorem wZ {s:Bs}(h:isVal s=true):s.length<=200:=by
 simp only[isVal,Bool.and_eq_true,decide_eq_true_eq] at h;exact h.1
theorem Bd.fresh (B:Nat)(w:ag)(hB:B<=w.heap.size):Bd B w.heap.size [] (w.alloc (.cells #[.pointer none,.slice none 0 0] 99)):=
 .inl ⟨hB,.slice none 0 0,cZ w _ _,World.ownsRowF_of (World.ownsRow_nil _ _ _ _),by simp[Value.ownBlock]⟩
theorem Js {B:Nat}{w:ag}:∀(k:Nat) {v:ag},Below B w v->Below B w (v.drewN k):=fun _ _ h=>⟨h.os,h.tape,h.output,h.size,h.block⟩
structure yU where
 nm:Bs
 c:ah
 parent:Int
 deep:Nat
def yU.cells (x:yU):List ah:=[.string ⟨x.nm.toArray⟩,x.c,aa x.parent,aa x.deep]
def gJ:List yU->List ah
 |[]=>[]
 |x::r=>x.cells++gJ r
theorem sD:∀a c:List yU,gJ (a++c)=gJ a++gJ c
 |[],_=>rfl
 |x::a,c=>by simp[gJ,sD a c]
theorem Jt (a:List yU)(x:yU):gJ (a++[x])=gJ a++x.cells:=by rw[sD];simp[gJ]
def FlR (W0:ag)(x:yU)(f:Fl):Prop:=x.nm=f.name/\jW W0 x.c f.attrs/\x.parent=f.parent/\x.deep=f.deep/\x.nm.length<=maxLen
def mZ (W0:ag):List yU->List Fl->Prop
 |[],[]=>True
 |x::r,f::q=>FlR W0 x f/\mZ W0 r q
 |_,_=>False
theorem mZ.len {W0:ag}:∀{a:List yU} {f:List Fl},mZ W0 a f->a.length=f.length
 |[],[],_=>rfl
 |_::r,_::q,h=>by simp[mZ.len (a:=r) (f:=q) h.2]
 |[],_::_,h=>h.elim
 |_::_,[],h=>h.elim
theorem mZ.app {W0:ag}:∀{a c:List yU} {f g:List Fl},mZ W0 a f->mZ W0 c g->mZ W0 (a++c) (f++g)
 |[],_,[],_,_,k=>k
 |_::r,_,_::q,_,h,k=>⟨h.1,mZ.app (a:=r) (f:=q) h.2 k⟩
 |[],_,_::_,_,h,_=>h.elim
 |_::_,_,[],_,h,_=>h.elim
theorem ZR {w:ag}{B:Nat}{e:TypeId}{size:Nat}{v:ah}{n:Nat}{xs:List ah}(h:w.ownsRow B e size v n xs):∀k,v.ownBlock=some k->B<=k:=by
 rcases h.2 with⟨rfl,_⟩|⟨g,cap,cur,rfl,hg,_⟩
 ·intro k hk;cases hk
 ·intro k hk;cases hk;exact hg
theorem VN {w:ag}{B:Nat}{e:TypeId}{size:Nat}{v:ah}{n:Nat}{xs:List ah}(h:w.ownsRow B e size v n xs):∀g,v.ownBlock=some g->∃c fz,w.heap[g]? =some (.cells c e fz):=by
 rcases h.2 with⟨rfl,_⟩|⟨g,cap,cur,rfl,_,hgg,_⟩
 ·intro k hk;cases hk
 ·intro k hk;cases hk;exact⟨cur,_,hgg⟩
structure FK (B:Nat)(w w':ag):Prop where
 low:Below B w w'
 ZQ:Lib.OthersKept 63 none w w'
theorem FK.trans {B:Nat}{w w' w'':ag}(h:FK B w w')(k:FK B w' w''):FK B w w'':=⟨h.low.trans k.low,h.ZQ.trans k.ZQ⟩
theorem FK.refl (B:Nat)(w:ag):FK B w w:=⟨Below.refl _ _,Lib.OthersKept.refl _ _ _⟩
theorem FK.al {B:Nat}(w:ag)(o:Obj)(hB:B<=w.heap.size):FK B w (w.alloc o):=⟨(Below.refl B w).alloc hB o,(Lib.OthersKept.refl _ _ w).alloc o⟩
theorem FK.box {B:Nat}{w w':ag}(h:FK B w w'){N:Nat}{cs:Array ah}{t:TypeId}(hN:w.heap[N]? =some (.cells cs t))(ht:t≠63):w'.heap[N]? =some (.cells cs t):=
 h.ZQ N _ hN (fun e=>nomatch e) (fun c fz e=>by cases e;exact ht rfl)
theorem FK.grown {B:Nat}{w w':ag}{v:ah}{n:Nat}{xs:List ah}(ho:w.ownsRow B 63 4 v n xs)(hg:w.grownBy w' v.ownBlock)(hB:B<=w.heap.size):FK B w w':=
 ⟨(Below.refl B w).grown hg hB (ZR ho),(Lib.OthersKept.refl _ _ w).grown hg (VN ho)⟩
theorem FK.VO {B:Nat}{w w':ag}(hg:w.grownBy w' none)(hB:B<=w.heap.size):FK B w w':=
 ⟨(Below.refl B w).grown hg hB (fun _ hk=>nomatch hk),(Lib.OthersKept.refl _ _ w).grown hg (fun _ hk=>nomatch hk)⟩
theorem VP:(prog.info? 63).map (fun i=>(i.zero,i.size,i.bytes))=some (some (.agg #[.string ⟨#[]⟩,.slice none 0 0,aa 0,aa 0]),4,56):=by kernel_rfl
theorem aH {w:ag}{B:Nat}{e:TypeId}{k:Nat}{v:ah}{n:Nat}{xs:List ah}(h:w.ownsRow B e k v n xs):∃o cap,v=.slice o n cap:=by
 rcases h.2 with⟨hv,hn⟩|⟨g,cap,cur,hv,_⟩
 ·exact⟨_,_,by rw[hv,hn]⟩
 ·exact⟨_,_,hv⟩
theorem Mr (w:ag)(a b c d:ah)(t:TypeId):∀j u,[a,b,c,d][j]? =some u->(w.alloc (.cells #[a,b,c,d] t)).cell? ((⟨w.heap.size,0,none⟩:Addr).add j)=some u:=by
 intro j u h;have e:(⟨w.heap.size,0,none⟩:Addr).add j=⟨w.heap.size,j,none⟩:=by unfold Addr.add;split<;>simp_all
 rw[e];exact gP w #[a,b,c,d] t j u (by simpa using h)
theorem AA (k:Nat)(p:Int)(d:Nat):∀(a c:List Nd),Cx k p d (a++c)=Cx k p d a++Cx (k+(Cx k p d a).length) p d c:=by
 intro a
 induction a generalizing k with
 |nil=>intro c;simp[Cx]
 |cons x a ih=>
  intro c;rw[List.cons_append,Cx,Cx,ih,List.length_append,List.append_assoc,Nat.add_assoc]
theorem Ju {k:Nat}{p:Int}{d:Nat}{ks:List Nd}{i:Nat}{x:Nd}(hx:ks[i]? =some x):Cx k p d (ks.take (i+1))=Cx k p d (ks.take i)++vZ (k+(Cx k p d (ks.take i)).length) p d x:=by
 rw[List.take_add_one,hx,AA];simp[Cx]
def aL:List (Bs×Bs)->List ah
 |[]=>[]
 |x::r=>[.string ⟨x.1.toArray⟩,.string ⟨x.2.toArray⟩]++aL r
theorem iN:∀a c:List (Bs×Bs),aL (a++c)=aL a++aL c
 |[],_=>rfl
 |x::a,c=>by simp[aL,iN a c]
theorem yx (a:List (Bs×Bs))(x:Bs×Bs):aL (a++[x])=aL a++[.string ⟨x.1.toArray⟩,.string ⟨x.2.toArray⟩]:=by rw[iN];simp[aL]
theorem tY:∀(M:List (Bs×Bs)) (i:Nat) (x:Bs×Bs),M[i]? =some x->(aL M)[i*2]? =some (fe x.1)/\(aL M)[i*2+1]? =some (fe x.2)
 |[],i,x,h=>by simp at h
 |y::r,0,x,h=>by
  simp at h;subst h;exact⟨rfl,rfl⟩
 |y::r,i+1,x,h=>by
  have:=tY r i x (by simpa using h);rw[show(i+1)*2=i*2+1+1 from by omega,show i*2+1+1+1=(i*2+1)+1+1 from rfl];simp only[aL,List.cons_append,List.nil_append,List.getElem?_cons_succ];exact this
theorem bO {w:ag}{B k:Nat}{e:TypeId}{v:ah}{n:Nat}{xs:List ah}(h:w.ownsRow B e k v n xs)(j:Nat)(u:ah)(hj:xs[j]? =some u):∃g,v.ownBlock=some g/\w.cell? (ak g j)=some u:=by
 obtain⟨h1,h2⟩:=h;rcases h2 with⟨_,h2⟩|⟨g,cap,cur,h3,h4,h5,h6,h7,h8,h9⟩
 ·subst h2;have hx:xs=[]:=List.eq_nil_of_length_eq_zero (by simpa using h1);rw[hx] at hj;simp at hj
 ·refine⟨g,by rw[h3];rfl,?_⟩;rw[<- h9,List.getElem?_take] at hj;split at hj
  ·unfold World.cell?;rw[h5];simpa using hj
  ·cases hj
theorem bS {w:ag}{B k:Nat}{e:TypeId}{v:ah}{n:Nat}{xs:List ah}(h:w.ownsRow B e k v n xs):∃o cap,v=.slice o n cap/\n<=cap/\cap<=maxLen/\(o=none->cap=0)/\∀g,v.ownBlock=some g->o=some ⟨g,0,none⟩:=by
 rcases h.2 with⟨h1,h2⟩|⟨g,cap,cur,h3,h4,h5,h6,h7,h8,h9⟩
 ·exact⟨none,0,by rw[h1,h2],by omega,by omega,fun _=>rfl,fun g hg=>by rw[h1] at hg;cases hg⟩
 ·exact⟨_,cap,h3,h6,h7,(fun h=>by cases h),(fun g' hg=>by rw[h3] at hg;cases hg;rfl)⟩
theorem bT {w w':ag}{B k n:Nat}{e:TypeId}{v:ah}{xs:List ah}(h:w.ownsRow B e k v n xs)(hs:∀g,v.ownBlock=some g->w'.heap[g]? =w.heap[g]?):w'.ownsRow B e k v n xs:=by
 obtain⟨h1,h2⟩:=h;refine⟨h1,?_⟩;rcases h2 with h2|⟨g,cap,cur,h3,h4,h5,h6⟩
 ·exact .inl h2
 ·exact .inr ⟨g,cap,cur,h3,h4,(hs g (by rw[h3];rfl)).trans h5,h6⟩
theorem aP {B k n:Nat}{e:TypeId}{v:ah}{xs:List ah}{w w':ag}(h:w.ownsRow B e k v n xs)(hb:Below w.heap.size w w'):w'.ownsRow B e k v n xs:=
 bT h fun g hg=>hb.block g (h.lt g hg).2
theorem own_ne {R B k n:Nat}{e:TypeId}{v:ah}{xs:List ah}{w:ag}(h:w.ownsRow B e k v n xs)(hR:R<B):some R≠v.ownBlock:=fun e=>by have:=(h.lt R e.symm).1;omega
theorem vB:(prog.info? 65).map (fun i=>(i.zero,i.size,i.bytes))=some (some (.agg #[.string ⟨#[]⟩,.string ⟨#[]⟩]),2,32):=by kernel_rfl
theorem zi:(prog.info? 3).map (fun i=>(i.zero,i.size,i.bytes))=some (some (aa 0),1,8):=by kernel_rfl
def NB (N:Nat)(c0 c1 c2:ah)(w:ag):Prop:=w.heap[N]? =some (.cells #[c0,c1,c2] 25)
theorem NB.c0 {N:Nat}{c0 c1 c2:ah}{w:ag}(h:NB N c0 c1 c2 w):w.cell? (ak N 0)=some c0:=aF h 0 _ rfl
theorem NB.c1 {N:Nat}{c0 c1 c2:ah}{w:ag}(h:NB N c0 c1 c2 w):w.cell? (ak N 1)=some c1:=aF h 1 _ rfl
theorem NB.c2 {N:Nat}{c0 c1 c2:ah}{w:ag}(h:NB N c0 c1 c2 w):w.cell? (ak N 2)=some c2:=aF h 2 _ rfl
inductive Tg where
 |doc
 |map
 |el (i:Int)
 |ats (i:Int)
 |kids (i:Int)
abbrev bf:=Nat->Option Tg
def bD (l:List Int):List ah:=l.map (Value.int .i64)
theorem EA (a b:List Int):bD (a++b)=bD a++bD b:=List.map_append
theorem qZ (l:List Int):(bD l).length=l.length:=List.length_map ..
theorem kI {l:List Int}{j:Nat}{k:Int}(h:l[j]? =some k):(bD l)[j]? =some (aa k):=by
 unfold bD;rw[List.getElem?_map,h];rfl
abbrev bA (k:Int):Prop:=(Lit.int .i64 k).wf=true
structure wu (B:Nat)(tg:bf)(w:ag)(i:Int)(b:Nat)(e:dO)(va vk:ah):Prop where
 cells:w.heap[b]? =some (.cells #[.string ⟨e.name.toArray⟩,va,aa e.parent,vk] 90)
 tag:tg b=some (.el i)
 ats:w.ownsRow B 65 2 va e.ats.length (aL e.ats)
 jH:∀g,va.ownBlock=some g->tg g=some (.ats i)
 kids:w.ownsRow B 3 1 vk e.kids.length (bD e.kids)
 gD:∀g,vk.ownBlock=some g->tg g=some (.kids i)
theorem wu.turn {B:Nat}{tg gF:bf}{w w':ag}{i:Int}{b:Nat}{e:dO}{va vk:ah}(h:wu B tg w i b e va vk)(hs:∀g t,tg g=some t->(t=.el i\/t=.ats i\/t=.kids i)->gF g=some t/\w'.heap[g]? =w.heap[g]?):wu B gF w' i b e va vk where
 cells:=((hs b _ h.tag (.inl rfl)).2).trans h.cells
 tag:=(hs b _ h.tag (.inl rfl)).1
 ats:=bT h.ats fun g hg=>(hs g _ (h.jH g hg) (.inr (.inl rfl))).2
 jH:=fun g hg=>(hs g _ (h.jH g hg) (.inr (.inl rfl))).1
 kids:=bT h.kids fun g hg=>(hs g _ (h.gD g hg) (.inr (.inr rfl))).2
 gD:=fun g hg=>(hs g _ (h.gD g hg) (.inr (.inr rfl))).1
theorem wu.c0 {B:Nat}{tg:bf}{w:ag}{i:Int}{b:Nat}{e:dO}{va vk:ah}(h:wu B tg w i b e va vk):w.cell? (ak b 0)=some (.string ⟨e.name.toArray⟩):=aF h.cells 0 _ rfl
theorem wu.c1 {B:Nat}{tg:bf}{w:ag}{i:Int}{b:Nat}{e:dO}{va vk:ah}(h:wu B tg w i b e va vk):w.cell? (ak b 1)=some va:=aF h.cells 1 _ rfl
theorem wu.c2 {B:Nat}{tg:bf}{w:ag}{i:Int}{b:Nat}{e:dO}{va vk:ah}(h:wu B tg w i b e va vk):w.cell? (ak b 2)=some (aa e.parent):=aF h.cells 2 _ rfl
theorem wu.c3 {B:Nat}{tg:bf}{w:ag}{i:Int}{b:Nat}{e:dO}{va vk:ah}(h:wu B tg w i b e va vk):w.cell? (ak b 3)=some vk:=aF h.cells 3 _ rfl
theorem aR {w:ag}{b:Nat}{cs:Array ah}{t:TypeId}(h:w.heap[b]? =some (.cells cs t))(i:Nat):w.frozen? ⟨b,i,none⟩=false:=by
 unfold World.frozen?;rw[h];simp
structure aO (B:Nat)(tg:bf)(w:ag)(DB MB:Nat)(p:Int->Option Nat)(M:Dm)(nx c:Nat):Prop where
 doc:w.heap[DB]? =some (.cells #[.map (some MB),aa nx] 85)
 jr:tg DB=some .doc
 map:eZ prog 3 w MB p nx c
 jg:tg MB=some .map
 els:∀i e,M i=some e->∃b va vk,p i=some b/\wu B tg w i b e va vk
 non:∀i,M i=none->p i=none
 low:∀b t,tg b=some t->B<=b/\b<w.heap.size
 dom:∀i e,M i=some e->0<=i/\i<nx
 wf:∀i e,M i=some e->bA e.parent/\∀k∈e.kids,bA k
 few:nx<=1000000
 Pf:∀b i,tg b=some (.el i)\/tg b=some (.ats i)\/tg b=some (.kids i)->i<nx
structure K2 (r n:Nat)(W w:ag):Prop where
 os:w.os=W.os
 tape:w.tape=W.tape
 output:w.output=W.output
 size:W.heap.size<=w.heap.size
 block:∀k,k<W.heap.size->k≠r->k≠n->w.heap[k]? =W.heap[k]?
theorem K2.trans {r n:Nat}{A B C:ag}(h:K2 r n A B)(k:K2 r n B C):K2 r n A C:=
 ⟨k.os.trans h.os,k.tape.trans h.tape,k.output.trans h.output,Nat.le_trans h.size k.size,fun i hi h1 h2=>(k.block i (Nat.lt_of_lt_of_le hi h.size) h1 h2).trans (h.block i hi h1 h2)⟩
theorem K2.of_below {r n:Nat}{A B:ag}(h:Below A.heap.size A B):K2 r n A B:=⟨h.os,h.tape,h.output,h.size,fun i hi _ _=>h.block i hi⟩
theorem K2.below {r n m:Nat}{A B:ag}(h:K2 r n A B)(h1:m<=r)(h2:m<=n)(hm:m<=A.heap.size):Below m A B:=⟨h.os,h.tape,h.output,h.size,fun i hi=>h.block i (by omega) (by omega) (by omega)⟩
theorem K2.cell {r n:Nat}{A B:ag}(h:K2 r n A B){b i:Nat}{v:ah}(hc:A.cell? (ak b i)=some v)(h1:b≠r)(h2:b≠n):B.cell? (ak b i)=some v:=by
 rw[World.cell?_of_block (h.block b (az hc) h1 h2)];exact hc
structure KT (tg:bf)(w w':ag):Prop where
 os:w'.os=w.os
 tape:w'.tape=w.tape
 output:w'.output=w.output
 size:w.heap.size<=w'.heap.size
 block:∀b,b<w.heap.size->tg b=none->w'.heap[b]? =w.heap[b]?
theorem KT.of_below {tg:bf}{w w':ag}(h:Below w.heap.size w w'):KT tg w w':=⟨h.os,h.tape,h.output,h.size,fun b hb _=>h.block b hb⟩
theorem KT.trans {tg gF:bf}{w w' w'':ag}(h:KT tg w w')(k:KT gF w' w'')(hg:∀b,b<w.heap.size->gF b=tg b):KT tg w w'':=
 ⟨k.os.trans h.os,k.tape.trans h.tape,k.output.trans h.output,Nat.le_trans h.size k.size,fun b hb hn=>(k.block b (Nat.lt_of_lt_of_le hb h.size) ((hg b hb).trans hn)).trans (h.block b hb hn)⟩
theorem KT.below {B:Nat}{tg:bf}{w w':ag}(h:KT tg w w')(hl:∀b t,tg b=some t->B<=b)(hB:B<=w.heap.size):Below B w w':=
 ⟨h.os,h.tape,h.output,h.size,fun b hb=>h.block b (Nat.lt_of_lt_of_le hb hB) (by
  cases ht:tg b with
  |none=>rfl
  |some t=>have:=hl b t ht;omega)⟩
section
variable {B:Nat}{tg gF:bf}{w w':ag}{DB MB:Nat}{p:Int->Option Nat}{M:Dm}{nx c:Nat}
theorem aO.turn (h:aO B tg w DB MB p M nx c)(hs:∀g t,tg g=some t->w'.heap[g]? =w.heap[g]?)(hz:w.heap.size<=w'.heap.size):aO B tg w' DB MB p M nx c where
 doc:=(hs DB _ h.jr).trans h.doc
 jr:=h.jr
 map:=h.map.same (hs MB _ h.jg)
 jg:=h.jg
 els:=fun i e he=>by
  obtain⟨b,va,vk,h1,h2⟩:=h.els i e he;exact⟨b,va,vk,h1,h2.turn fun g t ht _=>⟨ht,hs g t ht⟩⟩
 non:=h.non
 low:=fun b t ht=>⟨(h.low b t ht).1,Nat.lt_of_lt_of_le (h.low b t ht).2 hz⟩
 dom:=h.dom
 wf:=h.wf
 few:=h.few
 Pf:=h.Pf
theorem aO.below (h:aO B tg w DB MB p M nx c)(hb:Below w.heap.size w w'):aO B tg w' DB MB p M nx c:=
 h.turn (fun g t ht=>hb.block g (h.low g t ht).2) hb.size
theorem aO.d0 (h:aO B tg w DB MB p M nx c):w.cell? (ak DB 0)=some (.map (some MB)):=aF h.doc 0 _ rfl
theorem aO.d1 (h:aO B tg w DB MB p M nx c):w.cell? (ak DB 1)=some (aa nx):=aF h.doc 1 _ rfl
theorem aO.i64 (h:aO B tg w DB MB p M nx c){i:Int}{e:dO}(he:M i=some e):bA i:=by
 have:=h.dom i e he;have:=h.few;exact WalkArith.wf_i64 (by omega)
theorem aO.new (h:aO B tg w DB MB p M nx c){b:Nat}(hb:w.heap.size<=b):tg b=none:=by
 cases ht:tg b with
 |none=>rfl
 |some t=>have:=(h.low b t ht).2;omega
theorem aO.put (h:aO B tg w DB MB p M nx c){i:Int}{e e':dO}{b:Nat}{va vk:ah}(hi:M i=some e)(hb:p i=some b)(he:wu B gF w' i b e' va vk)(_hz:w.heap.size<=w'.heap.size)(hw:bA e'.parent/\∀k∈e'.kids,bA k)
  (hg:∀x,x<w.heap.size->gF x=tg x) (hl:∀x t,gF x=some t->B<=x/\x<w'.heap.size) (ht:∀x,w.heap.size<=x->gF x=none\/gF x=some (.el i)\/gF x=some (.ats i)\/gF x=some (.kids i)) (hs:∀x t,tg x=some t->t≠.el i->t≠.ats i->t≠.kids i->w'.heap[x]? =w.heap[x]?):aO B gF w' DB MB p (bJ M i e') nx c where
 doc:=(hs DB _ h.jr (by simp) (by simp) (by simp)).trans h.doc
 jr:=(hg DB (h.low _ _ h.jr).2).trans h.jr
 map:=h.map.same (hs MB _ h.jg (by simp) (by simp) (by simp))
 jg:=(hg MB (h.low _ _ h.jg).2).trans h.jg
 els:=fun j f hf=>by
  unfold bJ at hf;split at hf
  ·rename_i hj;subst hj;cases hf;exact⟨b,va,vk,hb,he⟩
  ·rename_i hj;obtain⟨b',va',vk',h1,h2⟩:=h.els j f hf;refine⟨b',va',vk',h1,h2.turn fun g t ht hk=>⟨(hg g (h.low g t ht).2).trans ht,hs g t ht ?_ ?_ ?_⟩⟩
   all_goals rcases hk with rfl|rfl|rfl<;>simp[hj]
 non:=fun j hj=>by
  unfold bJ at hj;split at hj
  ·cases hj
  ·exact h.non j hj
 low:=hl
 dom:=fun j f hf=>by
  unfold bJ at hf;split at hf
  ·rename_i hj;subst hj;exact h.dom _ e hi
  ·exact h.dom j f hf
 wf:=fun j f hf=>by
  unfold bJ at hf;split at hf
  ·cases hf;exact hw
  ·exact h.wf j f hf
 few:=h.few
 Pf:=fun x j hj=>by
  by_cases hx:x<w.heap.size
  ·rw[hg x hx] at hj;exact h.Pf x j hj
  ·have hij:j=i:=by
    rcases ht x (by omega) with h1|h1|h1|h1<;>rw[h1] at hj<;>simp at hj<;>exact hj.symm
   rw[hij];exact(h.dom i e hi).2
theorem KT.a6X (h:aO B tg w DB MB p M nx c)(k:K2 DB MB w w'):KT tg w w':=
 ⟨k.os,k.tape,k.output,k.size,fun b hb hn=>k.block b hb (fun e=>by rw[e,h.jr] at hn;cases hn) (fun e=>by rw[e,h.jg] at hn;cases hn)⟩
end
theorem aW (w:ag):(zeroValue 86).run prog w=.ok (.pointer none) w:=by kernel_rfl
structure Rx (B:Nat)(tg:bf)(w:ag)(b:Nat)(e:dO)(va vk:ah):Prop where
 cells:w.heap[b]? =some (.cells #[.string ⟨e.name.toArray⟩,va,aa e.parent,vk] 90)
 low:B<=b
 tag:tg b=none
 ats:w.ownsRow B 65 2 va e.ats.length (aL e.ats)
 jH:∀g,va.ownBlock=some g->tg g=none/\g≠b
 kids:w.ownsRow B 3 1 vk e.kids.length (bD e.kids)
 gD:∀g,vk.ownBlock=some g->tg g=none/\g≠b/\va.ownBlock≠some g
def jR (tg:bf)(i:Int)(b:Nat)(va vk:ah):bf:=fun x=>if x=b then some (.el i) else if va.ownBlock=some x then some (.ats i) else if vk.ownBlock=some x then some (.kids i) else tg x
theorem AB {tg:bf}{i:Int}{b:Nat}{va vk:ah}{x:Nat}{t:Tg}(h:tg x=some t)(hb:tg b=none)(ha:∀g,va.ownBlock=some g->tg g=none)(hk:∀g,vk.ownBlock=some g->tg g=none):jR tg i b va vk x=some t:=by
 unfold jR;rw[if_neg (fun e=>by rw[e,hb] at h;cases h),if_neg (fun e=>by rw[ha x e] at h;cases h),if_neg (fun e=>by rw[hk x e] at h;cases h)];exact h
theorem xe {tg:bf}{i:Int}{b:Nat}{va vk:ah}{x:Nat}(h1:x≠b)(h2:va.ownBlock≠some x)(h3:vk.ownBlock≠some x):jR tg i b va vk x=tg x:=by
 unfold jR;rw[if_neg h1,if_neg h2,if_neg h3]
section
variable {B:Nat}{tg:bf}{w w':ag}{DB MB:Nat}{p:Int->Option Nat}{M:Dm}{nx c:Nat}
theorem aO.add (h:aO B tg w DB MB p M nx c){b:Nat}{e:dO}{va vk:ah}(hn:Rx B tg w b e va vk)(hw:bA e.parent/\∀k∈e.kids,bA k)(hnx:nx<1000000)
  (hm:eZ prog 3 w' MB (fun i=>if i=(nx:Int) then some b else p i) (nx+1) (c+1)) (hd:w'.heap[DB]? =some (.cells #[.map (some MB),aa ((nx+1:Nat):Int)] 85))
  (hs:∀x,x≠DB->x≠MB->w'.heap[x]? =w.heap[x]?) (hz:w.heap.size<=w'.heap.size):aO B (jR tg nx b va vk) w' DB MB (fun i=>if i=(nx:Int) then some b else p i) (bJ M nx e) (nx+1) (c+1):=by
 have old:∀x t,tg x=some t->jR tg nx b va vk x=some t:=fun x t ht=>AB ht hn.tag (fun g hg=>(hn.jH g hg).1) (fun g hg=>(hn.gD g hg).1);have ne:∀x t,tg x=some t->t≠.doc->t≠.map->x≠DB/\x≠MB:=fun x t ht h1 h2=>⟨fun e=>h1 (Option.some.inj (ht.symm.trans (e▸h.jr))),fun e=>h2 (Option.some.inj (ht.symm.trans (e▸h.jg)))⟩;have nne:∀x,tg x=none->x≠DB/\x≠MB:=fun x hx=>⟨fun e=>(by rw[e,h.jr] at hx;exact absurd hx (by simp)),fun e=>(by rw[e,h.jg] at hx;exact absurd hx (by simp))⟩;have hbn:=nne b hn.tag;refine⟨hd,old _ _ h.jr,hm,old _ _ h.jg,fun i f hf=>?_,fun i hi=>?_,fun x t ht=>?_,fun i f hf=>?_,fun i f hf=>?_,by omega,fun x j hj=>?_⟩
 ·unfold bJ at hf;by_cases hi:i=nx
  ·rw[if_pos hi] at hf;cases hf;subst hi;refine⟨b,va,vk,by simp,⟨(hs b hbn.1 hbn.2).trans hn.cells,by unfold jR;rw[if_pos rfl],bT hn.ats fun g hg=>?_,fun g hg=>?_,bT hn.kids fun g hg=>?_,fun g hg=>?_⟩⟩
   ·have:=nne g (hn.jH g hg).1;exact hs g this.1 this.2
   ·unfold jR;rw[if_neg (hn.jH g hg).2,if_pos hg]
   ·have:=nne g (hn.gD g hg).1;exact hs g this.1 this.2
   ·unfold jR;rw[if_neg (hn.gD g hg).2.1,if_neg (hn.gD g hg).2.2,if_pos hg]
  ·rw[if_neg hi] at hf;obtain⟨b',va',vk',h1,h2⟩:=h.els i f hf;refine⟨b',va',vk',by simp only[if_neg hi];exact h1,h2.turn fun g t ht hk=>⟨old g t ht,?_⟩⟩;have:=ne g t ht (by rcases hk with rfl|rfl|rfl<;>simp) (by rcases hk with rfl|rfl|rfl<;>simp);exact hs g this.1 this.2
 ·unfold bJ at hi;by_cases hj:i=nx
  ·rw[if_pos hj] at hi;cases hi
  ·rw[if_neg hj] at hi;simp only[if_neg hj];exact h.non i hi
 ·unfold jR at ht;split at ht
  ·rename_i e;subst e;exact⟨hn.low,Nat.lt_of_lt_of_le (aM hn.cells) hz⟩
  ·split at ht
   ·rename_i e;have:=hn.ats.lt x e;omega
   ·split at ht
    ·rename_i e;have:=hn.kids.lt x e;omega
    ·have:=h.low x t ht;omega
 ·unfold bJ at hf;by_cases hi:i=nx
  ·omega
  ·rw[if_neg hi] at hf;have:=h.dom i f hf;omega
 ·unfold bJ at hf;by_cases hi:i=nx
  ·rw[if_pos hi] at hf;cases hf;exact hw
  ·rw[if_neg hi] at hf;exact h.wf i f hf
 ·unfold jR at hj;split at hj
  ·have:(nx:Int)=j:=by simpa using hj
   omega
  ·split at hj
   ·have:(nx:Int)=j:=by simpa using hj
    omega
   ·split at hj
    ·have:(nx:Int)=j:=by simpa using hj
     omega
    ·have:=h.Pf x j hj;omega
theorem aO.fresh (h:aO B tg w DB MB p M nx c):M nx=none/\p nx=none:=by
 have:M nx=none:=by
  cases hm:M nx with
  |none=>rfl
  |some e=>have:=h.dom nx e hm;omega
 exact⟨this,h.non nx this⟩
theorem aO.ne (h:aO B tg w DB MB p M nx c):MB≠DB:=fun e=>by have h1:=h.jr;rw[<- e,h.jg] at h1;cases h1
end
theorem Jv (B:Nat)(tg:bf)(w:ag)(DB MB:Nat)(p:Int->Option Nat)(M:Dm)(nx c b:Nat)(e:dO)(va vk:ah)(h:aO B tg w DB MB p M nx c)(hn:Rx B tg w b e va vk)(hw:bA e.parent/\∀k∈e.kids,bA k)(hnx:nx<1000000):
  ax 43 #[ay DB,ay b] w fun r w'=>r=.returned (aa nx)/\K2 DB MB w w'/\aO B (jR tg nx b va vk) w' DB MB (fun i=>if i=(nx:Int) then some b else p i) (bJ M nx e) (nx+1) (c+1):=by
 have d0:=h.d0;have d1:=h.d1;have hfr:=h.fresh;have hmx:nx<maxLen:=by rw[bq];omega
 have hne:=h.ne;go_enter func43,ntmps43;go_wp2_with(at_mapUpdate;refine Rm _ rfl _ _ _ 83 rfl underlying3 underlying83 rfl h.map hmx (nx:Int) rfl (WalkArith.wf_i64 (by omega)) b rfl hfr.2 ?_;intro w1 pm1 ht1;have e0:=(ht1.grown.block DB (aM h.doc) (fun e=>hne (Option.some.inj e).symm)).trans h.doc;have c0:=aF e0 0 _ rfl;have c1:=aF e0 1 _ rfl;have cf:=aR e0);go_ret;have hs1:=heap_setCell_same w1 DB 1 _ _ (aa ((nx:Int)+1)) e0;have hb:∀x,x≠DB->x≠MB->(w1.setCell ⟨DB,1,none⟩ (aa ((nx:Int)+1))).heap[x]? =w.heap[x]? :=fun x h1 h2=>by
  rw[Below.heap_setCell _ _ _ x h1];by_cases hx:x<w.heap.size
  ·exact ht1.grown.block x hx (fun e=>h2 (Option.some.inj e))
  ·have:w1.heap.size=w.heap.size:=by obtain⟨es,cl,es',cl', -,rfl⟩:=ht1;simp[Go.ChangeMaps.setBlock]
   rw[Array.getElem?_eq_none (by omega),Array.getElem?_eq_none (by omega)]
 have hz:w.heap.size<=(w1.setCell ⟨DB,1,none⟩ (aa ((nx:Int)+1))).heap.size:=by
  have:=ht1.grown.size;have:=((Below.refl DB w1).setCell (p:=⟨DB,1,none⟩) ai (aa ((nx:Int)+1))).size;omega
 have hset:=(Below.refl DB w1).setCell (p:=⟨DB,1,none⟩) ai (aa ((nx:Int)+1));refine⟨rfl,⟨hset.os.trans ht1.grown.os,hset.tape.trans ht1.grown.tape,hset.output.trans ht1.grown.output,hz,fun x _ h1 h2=>hb x h1 h2⟩,h.add hn hw hnx (pm1.same (Below.heap_setCell _ _ _ MB hne)) ?_ hb hz⟩;rw[hs1];rfl
theorem ng {B:Nat}{tg:bf}{w:ag}{DB MB:Nat}{p:Int->Option Nat}{M:Dm}{nx c:Nat}(h:aO B tg w DB MB p M nx c)(n:Int)(hn:bA n):
  ax 90 #[ay DB,aa n] w fun r w'=>r=.returned (.string ⟨(match M n with|none=>[]|some e=>e.name).toArray⟩)/\w'=w:=by
 have d0:=h.d0;cases hm:M n with
 |none=>
  have hp:=h.non n hm;go_enter func90,ntmps90;go_wp2_with(at_lookup;refine iB _ rfl _ _ 83 rfl underlying3 underlying83 (aW _) rfl h.map n rfl hn hp ?_);go_ret;exact⟨rfl,rfl⟩
 |some e=>
  obtain⟨b,va,vk,hp,he⟩:=h.els n e hm;have x0:=he.c0;go_enter func90,ntmps90;go_wp2_with(at_lookup;refine bu _ rfl _ _ 83 rfl underlying3 underlying83 (aW _) rfl h.map n rfl hn b hp ?_);go_ret;exact⟨rfl,rfl⟩
theorem AJ {B:Nat}{tg:bf}{w:ag}{DB MB:Nat}{p:Int->Option Nat}{M:Dm}{nx c:Nat}(h:aO B tg w DB MB p M nx c)(n:Int)(hn:bA n):
  ax 91 #[ay DB,aa n] w fun r w'=>r=.returned (aa (match M n with|none=> -1|some e=>e.parent))/\w'=w:=by
 have d0:=h.d0;cases hm:M n with
 |none=>
  have hp:=h.non n hm;go_enter func91,ntmps91;go_wp2_with(at_lookup;refine iB _ rfl _ _ 83 rfl underlying3 underlying83 (aW _) rfl h.map n rfl hn hp ?_);go_ret;exact⟨rfl,rfl⟩
 |some e=>
  obtain⟨b,va,vk,hp,he⟩:=h.els n e hm;have x0:=he.c2;go_enter func91,ntmps91;go_wp2_with(at_lookup;refine bu _ rfl _ _ 83 rfl underlying3 underlying83 (aW _) rfl h.map n rfl hn b hp ?_);go_ret;exact⟨rfl,rfl⟩
theorem xg {B:Nat}{tg:bf}{w:ag}{DB MB:Nat}{p:Int->Option Nat}{M:Dm}{nx c:Nat}(h:aO B tg w DB MB p M nx c):
  ax 104 #[ay DB] w fun r w'=>r=.returned (aa c)/\w'=w:=by
 have d0:=h.d0;go_enter func104,ntmps104;go_wp2_with(at_len;refine Vz _ rfl _ 83 rfl underlying83 rfl h.map ?_);go_ret;exact⟨rfl,rfl⟩
theorem gZ:∀l:List (Bs×Bs),(aL l).length=l.length*2
 |[]=>rfl
 |x::r=>by simp[aL,gZ r];omega
theorem tZ:∀(l:List (Bs×Bs)) (j:Nat) (u:ah),(aL l)[j]? =some u->∃i x,l[i]? =some x/\((j=i*2/\u=.string ⟨x.1.toArray⟩)\/(j=i*2+1/\u=.string ⟨x.2.toArray⟩))
 |[],j,u,h=>by simp[aL] at h
 |x::r,0,u,h=>by
  simp[aL] at h;exact⟨0,x,rfl,.inl ⟨rfl,h.symm⟩⟩
 |x::r,1,u,h=>by
  simp[aL] at h;exact⟨0,x,rfl,.inr ⟨rfl,h.symm⟩⟩
 |x::r,j+2,u,h=>by
  have h':(aL r)[j]? =some u:=by simpa[aL] using h
  obtain⟨i,y,h1,h2⟩:=tZ r j u h';exact⟨i+1,y,by simpa using h1,h2.imp (fun h=>⟨by omega,h.2⟩) (fun h=>⟨by omega,h.2⟩)⟩
theorem AV (l:List (Bs×Bs)):∀u∈aL l,u.oneCell'=true:=fun u hu=>by
 obtain⟨j,hj⟩:=List.getElem?_of_mem hu;obtain⟨i,x, -,⟨-,rfl⟩|⟨-,rfl⟩⟩:=tZ l j u hj<;>rfl
theorem VQ {w:ag}{a:Addr}{ats:List (Bs×Bs)}(h:Ay w (some a) ats):∀j u,(aL ats)[j]? =some u->w.cell? (a.add j)=some u:=fun j u hu=>by
 obtain⟨i,x,hx,h2⟩:=tZ ats j u hu;obtain⟨b,off,h3,h4,h5, -⟩:=h i x hx;cases h3;have hadd:∀k,(⟨b,off,none⟩:Addr).add k=⟨b,off+k,none⟩:=fun k=>by unfold Addr.add;split<;>simp_all
 rw[hadd];rcases h2 with⟨rfl,rfl⟩|⟨rfl,rfl⟩
 ·exact h4
 ·rw[<- Nat.add_assoc];exact h5
theorem VS (w:ag)(v:ah)(ats:List (Bs×Bs))(h:jW w v ats)(hl:ats.length<=1000000):
  ax 42 #[v] w fun e w'=>∃o n k,e=.returned (.slice o n k)/\w'.ownsRow w.heap.size 65 2 (.slice o n k) ats.length (aL ats)/\Below w.heap.size w w':=by
 obtain⟨o,cap,rfl,h1,h2,h3,h4⟩:=h;have q22:∀(w:ag) (a:Option Addr) (n c n' c':Nat),(binOp .eql 22 (.slice a n c) (.slice none n' c')).run prog w=.ok (.bool a.isNone) w:=fun w a n c n' c'=>Lib.run_eql_slice_nil w _ _ a n c n' c' underlying22;obtain⟨i0,hi,hz0,hz1,hz2⟩:=info_parts vB;cases o with
 |none=>
  have hc:=h3 rfl;have hz:ats=[]:=List.length_eq_zero_iff.1 (by omega);subst hz;go_enter func42,ntmps42;go_wp2_with fail;go_ret;exact⟨none,0,0,rfl,World.ownsRow_nil _ _ _ _,Below.refl _ _⟩
 |some a=>
  have HN:Hid (∀j u,(aL ats)[j]? =some u->w.cell? (a.add j)=some u):=VQ h4;have HO:Hid (∀u∈aL ats,u.oneCell'=true):=AV ats;clear h4;go_enter func42,ntmps42;go_wp2_with(at_builtin;refine wpList_append_own _ rfl _ _ 22 rfl w.heap.size 65 i0 (.agg #[.string ⟨#[]⟩,.string ⟨#[]⟩]) 2 32 underlying22 hi hz0 hz1 hz2 rfl (by decide) _ _ _ rfl (World.ownsRow_made w #[] 0 ai (Nat.zero_le _) (by simp)) a ats.length cap (aL ats) rfl (gZ ats) (fun j u hj=>dQ _ (HN.out j u hj)) HO.out (by rw[bq];omega) (by omega) (by simp) ?_;intro v7 w7 kF lH _;obtain⟨o7,tK,rfl⟩:=aH kF);go_ret;exact⟨o7,_,tK,rfl,by simpa using kF,((Below.refl _ w).alloc ai _).grown lH (by simp) (fun k hk=>by have hk':some w.heap.size=some k:=hk;cases hk';exact Nat.le_refl _)⟩
mutual
def Ry:Nd->Prop
 | .mk _ ats ks=>ats.length<=12/\Ms ks
def Ms:List Nd->Prop
 |[]=>True
 |k::l=>Ry k/\Ms l
end
theorem Jw:∀{l:List Nd} {k:Nd},Ms l->k∈l->Ry k
 |[],_,_,h=>by simp at h
 |a::l,k,h,hk=>by
  unfold Ms at h;rcases List.mem_cons.1 hk with rfl|hk
  ·exact h.1
  ·exact Jw h.2 hk
mutual
theorem Pg:∀(n:Nd) (deep ahead:Nat),(iT n deep ahead).1=0->Ry n
 | .mk nm ats ks,deep,ahead,h=>by
  unfold iT at h;split at h
  ·rename_i h1;unfold Ry;exact⟨(VM h1).2.1,Ph ks _ _ h⟩
  ·rename_i h1;exact(h1 h).elim
theorem Ph:∀(l:List Nd) (deep ahead:Nat),(wo l deep ahead).1=0->Ms l
 |[],_,_,_=>by unfold Ms;trivial
 |k::l,deep,ahead,h=>by
  by_cases h1:(iT k deep ahead).1=0
  ·rw[qy h1] at h;unfold Ms;exact⟨Pg k deep ahead h1,Ph l _ _ h⟩
  ·rw[vw h1] at h;exact(h1 h).elim
end
theorem Jy (ks:List Nd)(i:Nat):jd (ks.take i)<=jd ks:=by
 have:=zb (ks.take i) (ks.drop i);rw[List.take_append_drop] at this;omega
theorem EC {ks:List Nd}{i:Nat}{k:Nd}(h:ks[i]? =some k):ks.take (i+1)=ks.take i++[k]:=by
 rw[List.take_add_one,h];rfl
end
end Go.Proofs.YtjfiehbcamfdfaaGreatDoor

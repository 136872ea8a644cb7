/- Parts of the proof. -/
import Derived.Test.YtecneflbncjhpaaGreatDoorChecked
import Derived.Test.YtecneflbncjhpaaGreatDoorQp10
import Derived.Test.YtecneflbncjhpaaGreatDoorQp6
import Derived.Test.YtecneflbncjhpaaGreatDoorQp12
namespace Go.Proofs.YtecneflbncjhpaaGreatDoor
open Go.Proofs.Tryz
set_option maxHeartbeats 8000000
section
open Go.RowKit
theorem zl (s:aC):s.data.toList.length=s.size:=Array.length_toList
theorem Lc (s:aC)(i:Nat)(h:i<s.size):s.data.toList[i]'(by rw[zl];exact h)=s[i]:=by simp[ByteArray.getElem_eq_getElem_data]
theorem a9h (c d:UInt8):(c<=d)↔((c.toNat:Int)<=(d.toNat:Int)):=by rw[UInt8.le_iff_toNat_le];omega
theorem a1n (c d:UInt8):(c<d)↔((c.toNat:Int)<(d.toNat:Int)):=by rw[UInt8.lt_iff_toNat_lt];omega
theorem Em (c d:UInt8):(c=d)↔((c.toNat:Int)=(d.toNat:Int)):=by rw[<- UInt8.toNat_inj];omega
theorem Aa (c:UInt8):(c.toNat:Int)<=255:=by have:=c.toNat_lt;omega
theorem a1o {s:aC}(h:0<s.size):s.toList.isEmpty=false:=by
 rw[ByteArray.toList_eq,List.isEmpty_eq_false_iff];intro e;have:=zl s;rw[e] at this;simp at this;omega
theorem Xw (c:UInt8):zP c=true↔97<=(c.toNat:Int)/\(c.toNat:Int)<=122:=by
 simp only[zP,Bool.and_eq_true,decide_eq_true_eq,a9h];rfl
theorem Xx (c:UInt8):NS c=true↔48<=(c.toNat:Int)/\(c.toNat:Int)<=57:=by
 simp only[NS,Bool.and_eq_true,decide_eq_true_eq,a9h];rfl
theorem iV (c:UInt8)(w:ag):au 119 #[.int .u8 c.toNat] w fun e w'=>e=.returned (.bool (zP c))/\w'=w:=by
 have hL:=Xw c;generalize zP c=b at hL⊢;by_cases h1:97<=(c.toNat:Int)
 ·by_cases h2:(c.toNat:Int)<=122
  ·obtain rfl:b=true:=hL.2 ⟨h1,h2⟩;clear hL;go_enter func119,ntmps119;go_wp2;go_ret;exact⟨rfl,rfl⟩
  ·obtain rfl:b=false:=by cases b with
    |false=>rfl
    |true=>exact(h2 (hL.1 rfl).2).elim
   clear hL;go_enter func119,ntmps119;go_wp2;go_ret;exact⟨rfl,rfl⟩
 ·obtain rfl:b=false:=by cases b with
   |false=>rfl
   |true=>exact(h1 (hL.1 rfl).1).elim
  clear hL;go_enter func119,ntmps119;go_wp2;go_ret;exact⟨rfl,rfl⟩
theorem rz (c:UInt8)(w:ag):au 120 #[.int .u8 c.toNat] w fun e w'=>e=.returned (.bool (NS c))/\w'=w:=by
 have hL:=Xx c;generalize NS c=b at hL⊢;by_cases h1:48<=(c.toNat:Int)
 ·by_cases h2:(c.toNat:Int)<=57
  ·obtain rfl:b=true:=hL.2 ⟨h1,h2⟩;clear hL;go_enter func120,ntmps120;go_wp2;go_ret;exact⟨rfl,rfl⟩
  ·obtain rfl:b=false:=by cases b with
    |false=>rfl
    |true=>exact(h2 (hL.1 rfl).2).elim
   clear hL;go_enter func120,ntmps120;go_wp2;go_ret;exact⟨rfl,rfl⟩
 ·obtain rfl:b=false:=by cases b with
   |false=>rfl
   |true=>exact(h1 (hL.1 rfl).1).elim
  clear hL;go_enter func120,ntmps120;go_wp2;go_ret;exact⟨rfl,rfl⟩
theorem Xy (s:aC):gG s.data.toList=true↔∃h0:0<s.size,s.size<=12/\zP s[0]=true/\∀i (h:i<s.size),1<=i->Vy s[i]=true:=by
 have hl:=zl s;have hg:=fun i h=>Lc s i h;constructor
 ·intro h;cases hs:s.data.toList with
  |nil=>rw[hs] at h;simp[gG] at h
  |cons c r=>
   rw[hs] at h hl;simp only[gG,Bool.and_eq_true,decide_eq_true_eq,List.all_eq_true] at h;have h0:0<s.size:=by rw[<- hl];simp
   refine⟨h0,by rw[<- hl];exact h.1.1,?_,fun i hi h1=>?_⟩
   ·rw[<- hg 0 h0];simp only[hs,List.getElem_cons_zero];exact h.1.2
   ·obtain⟨j,rfl⟩:∃j,i=j+1:=⟨i-1,by omega⟩;rw[<- hg _ hi];simp only[hs,List.getElem_cons_succ];exact h.2 _ (List.getElem_mem _)
 ·rintro⟨h0,h1,h2,h3⟩;cases hs:s.data.toList with
  |nil=>rw[hs] at hl;simp at hl;omega
  |cons c r=>
   rw[hs] at hl;simp only[gG,Bool.and_eq_true,decide_eq_true_eq,List.all_eq_true];refine⟨⟨by rw[hl];exact h1,?_⟩,fun d hd=>?_⟩
   ·have:=hg 0 h0;simp only[hs,List.getElem_cons_zero] at this;rw[this];exact h2
   ·obtain⟨i,hi,rfl⟩:=List.mem_iff_getElem.1 hd;have hlt:i+1<s.size:=by rw[<- hl];simp;exact hi
    have:=hg (i+1) hlt;simp only[hs,List.getElem_cons_succ] at this;rw[this];exact h3 _ hlt (by omega)
theorem iN (s:aC)(hs:s.size<=9223372036854775807)(w:ag):au 69 #[.string s] w fun e w'=>e=.returned (.bool (gG s.data.toList))/\w'=w:=by
 have hN:=Xy s;generalize gG s.data.toList=b at hN⊢;have NO:Hid ((¬∃h0:0<s.size,s.size<=12/\zP s[0]=true/\∀i (h:i<s.size),1<=i->Vy s[i]=true)->b=false):=fun h=>by
  cases b with
  |false=>rfl
  |true=>exact(h (hN.1 rfl)).elim
 have YES:Hid ((∃h0:0<s.size,s.size<=12/\zP s[0]=true/\∀i (h:i<s.size),1<=i->Vy s[i]=true)->b=true):=hN.2;clear hN;by_cases h0:0<s.size
 ·have hE:=a1o h0;have hE':¬s.toList=[]:=by intro e;rw[e] at hE;simp at hE
  by_cases h1:s.size<=12
  ·have h1':(s.size:Int)<=12:=by omega
   cases h2:zP s[0] with
   |false=>
    obtain rfl:=NO.out (fun⟨_,_,h,_⟩=>by rw[h2] at h;cases h);clear NO YES;go_enter func69,ntmps69;go_wp2_with(go_at_call 119;refine(iV s[0] _).mono ?_;rw[h2];rintro e w1 ⟨rfl,rfl⟩);go_ret;exact⟨rfl,rfl⟩
   |true=>
    go_enter func69,ntmps69;go_wp2_with(go_at_call 119;refine(iV s[0] _).mono ?_;rw[h2];rintro e w1 ⟨rfl,rfl⟩)
    go_loop [3] (fun y=>∃k:Nat,k<=s.size/\1<=k/\y=aa k/\∀i (h:i<s.size),1<=i->i<k->Vy s[i]=true) (fun y=>s.size-(intOf y).toNat)
    case atStart=>exact⟨1,by omega,by omega,rfl,fun i _ a b=>by omega⟩
    case round=>
     obtain⟨k,hk,hk1,rfl,hall⟩:=hrel;have HA:=aj hall;clear hall;by_cases hlt:k<s.size
     ·have hlt':(k:Int)<(s.size:Int):=by omega
      have hb:=Aa s[k];cases hl:zP s[k] with
      |true=>
       go_wp2_with(go_at_call 119;refine(iV s[k] _).mono ?_;rw[hl];rintro e w2 ⟨rfl,rfl⟩)
       go_round
       case rel=>exact⟨k+1,by omega,by omega,by go_num,fun i h a b=>by
        by_cases e:i<k
        ·exact HA.out i h a e
        ·obtain rfl:i=k:=by omega
         simp[Vy,hl]⟩
       case measure=>simp[intOf];omega
      |false=>
       cases hd:NS s[k] with
       |true=>
        go_wp2_with(first|(go_at_call 119;refine(iV s[k] _).mono ?_;rw[hl];rintro e w2 ⟨rfl,rfl⟩)|(go_at_call 120;refine(rz s[k] _).mono ?_;rw[hd];rintro e w3 ⟨rfl,rfl⟩))
        go_round
        case rel=>exact⟨k+1,by omega,by omega,by go_num,fun i h a b=>by
         by_cases e:i<k
         ·exact HA.out i h a e
         ·obtain rfl:i=k:=by omega
          simp[Vy,hd]⟩
        case measure=>simp[intOf];omega
       |false=>
        by_cases h45:(s[k].toNat:Int)=45
        ·have L45:∀w,au 119 #[.int .u8 45] w fun e w'=>e=.returned (.bool false)/\w'=w:=fun w=>by have:=iV 45 w;rwa[show zP 45=false from by decide,show(((45:UInt8).toNat:Nat):Int)=45 from by decide] at this
         have D45:∀w,au 120 #[.int .u8 45] w fun e w'=>e=.returned (.bool false)/\w'=w:=fun w=>by have:=rz 45 w;rwa[show NS 45=false from by decide,show(((45:UInt8).toNat:Nat):Int)=45 from by decide] at this
         have e45:Hid (Vy s[k]=true):=(by have:s[k]=45:=(Em _ _).2 (h45.trans (by decide));simp[Vy,this]:Vy s[k]=true);go_wp2_with(first|(go_at_call 119;refine(L45 _).mono ?_;rintro e w2 ⟨rfl,rfl⟩)|(go_at_call 120;refine(D45 _).mono ?_;rintro e w3 ⟨rfl,rfl⟩))
         go_round
         case rel=>exact⟨k+1,by omega,by omega,by go_num,fun i h a b=>by
          by_cases e:i<k
          ·exact HA.out i h a e
          ·obtain rfl:i=k:=by omega
           exact e45.out⟩
         case measure=>simp[intOf];omega
        ·have hn:Vy s[k]=false:=by
          have:¬s[k]=45:=fun e=>h45 (((Em _ _).1 e).trans (by decide));simp[Vy,hl,hd,this]
         obtain rfl:=NO.out (fun⟨_,_,_,h⟩=>by have:=h k hlt hk1;rw[hn] at this;cases this);clear NO YES HA hn;go_wp2_with(first|(go_at_call 119;refine(iV s[k] _).mono ?_;rw[hl];rintro e w2 ⟨rfl,rfl⟩)|(go_at_call 120;refine(rz s[k] _).mono ?_;rw[hd];rintro e w3 ⟨rfl,rfl⟩));go_ret;exact⟨rfl,rfl⟩
     ·obtain rfl:=YES.out ⟨h0,h1,h2,fun i h a=>HA.out i h a (by omega)⟩;clear NO YES HA;have hge:¬(k:Int)<(s.size:Int):=by omega
      go_wp2_with fail;go_ret;exact⟨rfl,rfl⟩
  ·obtain rfl:=NO.out (fun⟨_,h,_⟩=>h1 h);clear NO YES;have h1':12<(s.size:Int):=by omega
   go_enter func69,ntmps69;go_wp2_with fail;go_ret;exact⟨rfl,rfl⟩
 ·obtain rfl:=NO.out (fun⟨h,_⟩=>h0 h);clear NO YES;have hE:s.toList.isEmpty=true:=by
   rw[ByteArray.toList_eq,List.isEmpty_iff];exact iC.1 (by rw[zl];omega)
  have hE':s.toList=[]:=List.isEmpty_iff.1 hE;go_enter func69,ntmps69;go_wp2_with fail;go_ret;exact⟨rfl,rfl⟩
theorem TP (s:aC):isVal s.data.toList=true↔s.size<=200/\∀i (h:i<s.size),32<=(s[i].toNat:Int)/\(s[i].toNat:Int)<=126:=by
 have hl:=zl s;simp only[isVal,Bool.and_eq_true,decide_eq_true_eq,List.all_eq_true,hl,Bool.not_eq_true',decide_eq_false_iff_not];refine and_congr_right fun _=>⟨fun h i hi=>?_,fun h c hc=>?_⟩
 ·have:=h s[i] (by rw[<- Lc s i hi];exact List.getElem_mem _);rw[a1n,a1n] at this;have e1:(((32:UInt8).toNat:Nat):Int)=32:=by decide
  have e2:(((126:UInt8).toNat:Nat):Int)=126:=by decide
  rw[e1,e2] at this;omega
 ·obtain⟨i,hi,rfl⟩:=List.mem_iff_getElem.1 hc;rw[hl] at hi;have:=h i hi;rw[Lc s i hi,a1n,a1n];have e1:(((32:UInt8).toNat:Nat):Int)=32:=by decide
  have e2:(((126:UInt8).toNat:Nat):Int)=126:=by decide
  rw[e1,e2];omega
theorem zm (s:aC)(hs:s.size<=9223372036854775807)(w:ag):au 123 #[.string s] w fun e w'=>e=.returned (.bool (isVal s.data.toList))/\w'=w:=by
 have hN:=TP s;generalize isVal s.data.toList=b at hN⊢;have NO:Hid ((¬(s.size<=200/\∀i (h:i<s.size),32<=(s[i].toNat:Int)/\(s[i].toNat:Int)<=126))->b=false):=fun h=>by
  cases b with
  |false=>rfl
  |true=>exact(h (hN.1 rfl)).elim
 have YES:Hid ((s.size<=200/\∀i (h:i<s.size),32<=(s[i].toNat:Int)/\(s[i].toNat:Int)<=126)->b=true):=hN.2;clear hN;by_cases h1:s.size<=200
 ·have h1':(s.size:Int)<=200:=by omega
  go_enter func123,ntmps123;go_wp2_with fail
  go_loop [3] (fun y=>∃k:Nat,k<=s.size/\y=aa k/\∀i (h:i<s.size),i<k->32<=(s[i].toNat:Int)/\(s[i].toNat:Int)<=126) (fun y=>s.size-(intOf y).toNat)
  case atStart=>exact⟨0,by omega,rfl,fun i _ b=>by omega⟩
  case round=>
   obtain⟨k,hk,rfl,hall⟩:=hrel;have HA:=aj hall;clear hall;by_cases hlt:k<s.size
   ·have hlt':(k:Int)<(s.size:Int):=by omega
    have hb:=Aa s[k];by_cases c1:(s[k].toNat:Int)<32
    ·obtain rfl:=NO.out (fun h=>by have:=(h.2 k hlt).1;omega);clear NO YES HA;go_wp2_with fail;go_ret;exact⟨rfl,rfl⟩
    ·by_cases c2:126<(s[k].toNat:Int)
     ·obtain rfl:=NO.out (fun h=>by have:=(h.2 k hlt).2;omega);clear NO YES HA;go_wp2_with fail;go_ret;exact⟨rfl,rfl⟩
     ·have HK:Hid (32<=(s[k].toNat:Int)/\(s[k].toNat:Int)<=126):=⟨by omega,by omega⟩;go_wp2_with fail
      go_round
      case rel=>exact⟨k+1,by omega,by go_num,fun i h b=>by
       by_cases e:i<k
       ·exact HA.out i h e
       ·obtain rfl:i=k:=by omega
        exact HK.out⟩
      case measure=>simp[intOf];omega
   ·obtain rfl:=YES.out ⟨h1,fun i h=>HA.out i h (by omega)⟩;clear NO YES HA;have hge:¬(k:Int)<(s.size:Int):=by omega
    go_wp2_with fail;go_ret;exact⟨rfl,rfl⟩
 ·obtain rfl:=NO.out (fun h=>h1 h.1);clear NO YES;have h1':200<(s.size:Int):=by omega
  go_enter func123,ntmps123;go_wp2_with fail;go_ret;exact⟨rfl,rfl⟩
def FT (c:UInt8):aC:=if c=60 then⟨#[38,108,116,59]⟩ else if c=62 then⟨#[38,103,116,59]⟩ else if c=38 then⟨#[38,97,109,112,59]⟩ else if c=34 then⟨#[38,113,117,111,116,59]⟩ else⟨#[]⟩
theorem mF (c:UInt8)(w:ag):au 113 #[.int .u8 c.toNat] w fun e w'=>e=.returned (.string (FT c))/\w'=w:=by
 have hb:=Aa c;have e60:c=60↔(c.toNat:Int)=60:=⟨fun h=>((Em _ _).1 h).trans (by decide),fun h=>(Em _ _).2 (h.trans (by decide))⟩;have e62:c=62↔(c.toNat:Int)=62:=⟨fun h=>((Em _ _).1 h).trans (by decide),fun h=>(Em _ _).2 (h.trans (by decide))⟩;have e38:c=38↔(c.toNat:Int)=38:=⟨fun h=>((Em _ _).1 h).trans (by decide),fun h=>(Em _ _).2 (h.trans (by decide))⟩;have e34:c=34↔(c.toNat:Int)=34:=⟨fun h=>((Em _ _).1 h).trans (by decide),fun h=>(Em _ _).2 (h.trans (by decide))⟩;unfold FT;simp only[e60,e62,e38,e34];clear e60 e62 e38 e34;generalize (c.toNat:Int)=x at*;by_cases h1:x=60
 ·subst h1;go_enter func113,ntmps113;go_wp2;go_ret;exact⟨rfl,rfl⟩
 ·rw[if_neg h1];by_cases h2:x=62
  ·subst h2;go_enter func113,ntmps113;go_wp2;go_ret;exact⟨rfl,rfl⟩
  ·rw[if_neg h2];by_cases h3:x=38
   ·subst h3;go_enter func113,ntmps113;go_wp2;go_ret;exact⟨rfl,rfl⟩
   ·rw[if_neg h3];by_cases h4:x=34
    ·subst h4;go_enter func113,ntmps113;go_wp2;go_ret;exact⟨rfl,rfl⟩
    ·rw[if_neg h4];go_enter func113,ntmps113;go_wp2;go_ret;exact⟨rfl,rfl⟩
def gT (s:Bs):ah:=.string ⟨s.toArray⟩
theorem fU (s:Bs):(⟨s.toArray⟩:aC).size=s.length:=by simp[ByteArray.size]
def BV (w:ag)(o:Option Addr)(ats:List (Bs×Bs)):Prop:=∀i x,ats[i]? =some x->∃b off,o=some ⟨b,off,none⟩/\w.cell? (ak b (off+i*2))=some (gT x.1)/\w.cell? (ak b (off+i*2+1))=some (gT x.2)/\x.1.length<=maxLen/\x.2.length<=maxLen
def mY (w:ag)(v:ah)(ats:List (Bs×Bs)):Prop:=∃o cap,v=.slice o ats.length cap/\ats.length<=cap/\cap<=maxLen/\(o=none->cap=0)/\BV w o ats
mutual
def nG (w:ag)(c0 c1 c2:ah):Nd->Prop
 | .mk nm ats ks=>c0=gT nm/\nm.length<=maxLen/\mY w c1 ats/\∃o cap,c2=.slice o ks.length cap/\ks.length<=cap/\cap<=maxLen/\(o=none->cap=0)/\jV w o 0 ks
def jV (w:ag)(o:Option Addr)(i:Nat):List Nd->Prop
 |[]=>True
 |k::l=>(∃b off c0 c1 c2,o=some ⟨b,off,none⟩/\w.cell? (ak b (off+i*3))=some c0/\w.cell? (ak b (off+i*3+1))=some c1/\w.cell? (ak b (off+i*3+2))=some c2/\nG w c0 c1 c2 k)/\jV w o (i+1) l
end
theorem az {w:ag}{a:Addr}{v:ah}(h:w.cell? a=some v):a.block<w.heap.size:=by
 rcases Nat.lt_or_ge a.block w.heap.size with h'|h'
 ·exact h'
 ·simp[World.cell?,Array.getElem?_eq_none h'] at h
theorem BV.below {w w':ag}{o:Option Addr}{ats:List (Bs×Bs)}(h:BV w o ats)(hb:Below w.heap.size w w'):BV w' o ats:=fun i x hx=>by
 obtain⟨b,off,h1,h2,h3,h4⟩:=h i x hx;exact⟨b,off,h1,(hb.cell (az h2)).trans h2,(hb.cell (az h3)).trans h3,h4⟩
theorem mY.below {w w':ag}{v:ah}{ats:List (Bs×Bs)}(h:mY w v ats)(hb:Below w.heap.size w w'):mY w' v ats:=by
 obtain⟨o,cap,h1,h2,h3,h5,h4⟩:=h;exact⟨o,cap,h1,h2,h3,h5,h4.below hb⟩
mutual
theorem nG.below {w w':ag}(hb:Below w.heap.size w w'):∀{c0 c1 c2:ah} (n:Nd),nG w c0 c1 c2 n->nG w' c0 c1 c2 n
 |_,_,_,.mk _ _ ks,h=>by
  unfold nG at h⊢;obtain⟨h1,h2,h3,o,cap,h4,h5,h6,h8,h7⟩:=h;exact⟨h1,h2,h3.below hb,o,cap,h4,h5,h6,h8,jV.below hb ks h7⟩
theorem jV.below {w w':ag}(hb:Below w.heap.size w w'):∀{o:Option Addr} {i:Nat} (l:List Nd),jV w o i l->jV w' o i l
 |_,_,[],_=>by unfold jV;trivial
 |_,_,k::l,h=>by
  unfold jV at h⊢;obtain⟨⟨b,off,c0,c1,c2,h1,h2,h3,h4,h5⟩,h6⟩:=h;exact⟨⟨b,off,c0,c1,c2,h1,(hb.cell (az h2)).trans h2,(hb.cell (az h3)).trans h3,(hb.cell (az h4)).trans h4,nG.below hb k h5⟩,jV.below hb l h6⟩
end
theorem jV.get {w:ag}{o:Option Addr}:∀{l:List Nd} {i j:Nat} {k:Nd},jV w o i l->l[j]? =some k->∃b off c0 c1 c2,o=some ⟨b,off,none⟩/\w.cell? (ak b (off+(i+j)*3))=some c0/\w.cell? (ak b (off+(i+j)*3+1))=some c1/\w.cell? (ak b (off+(i+j)*3+2))=some c2/\nG w c0 c1 c2 k
 |[],_,_,_,_,hk=>by simp at hk
 |k::l,i,j,k',h,hk=>by
  unfold jV at h;cases j with
  |zero=>simp at hk;subst hk;exact h.1
  |succ j=>
   have:=jV.get (i:=i+1) (j:=j) h.2 (by simpa using hk);rw[show i+1+j=i+(j+1) from by omega] at this;exact this
theorem bq:maxLen=9223372036854775807:=by decide
def atV (x:Bs×Bs):ah:=.agg #[gT x.1,gT x.2]
theorem aH {W A w:ag}(h:Below W.heap.size W A)(hb:Below A.heap.size A w):Below W.heap.size W w:=h.trans (hb.mono h.size)
theorem bK {W:ag}{a:Addr}{v:ah}(o:Obj)(h:W.cell? a=some v):(W.alloc o).cell? a=some v:=(((aG W.heap.size W).alloc ai o).cell (az h)).trans h
theorem Ho (x:Bs×Bs)(nm:Bs)(B:Nat)(W:ag)(hB:W.cell? (ak B 0)=some (gT nm)):
  au 122 #[atV x,ay B] W fun e w'=>e=.returned (.bool (x.1==nm))/\Below W.heap.size W w':=by
 have hB':=fun o=>bK o hB;unfold atV gT at*;go_enter func122,ntmps122;go_wp2;go_ret;exact⟨rfl,(aG _ W).alloc ai _⟩
def fI (nm:Bs):Nat->List (Bs×Bs)->Int
 |_,[]=> -1
 |k,x::r=>if(x.1==nm)=true then k else fI nm (k+1) r
theorem Xz (nm:Bs):∀(l:List (Bs×Bs)) (k:Nat),decide (0<=fI nm k l)=l.any (fun x=>x.1==nm)
 |[],_=>rfl
 |x::r,k=>by
  unfold fI;cases hx:(x.1==nm) with
  |true=>simp[hx]
  |false=>simp only[Bool.false_eq_true,if_false,List.any_cons,hx,Bool.false_or];exact Xz nm r (k+1)
theorem drop_at {α:Type}{l:List α}{k:Nat}(h:k<l.length):∃x,l[k]? =some x/\l.drop k=x::l.drop (k+1):=⟨l[k],dK h,(List.getElem_cons_drop h).symm⟩
theorem Eo (ats:List (Bs×Bs))(nm:Bs)(B:Nat)(v:ah)(W:ag)(h:mY W v ats)(hB:W.cell? (ak B 0)=some (gT nm)):
  au 168 #[v,.func (.func 122) #[] #[ay B]] W fun e w'=>e=.returned (aa (fI nm 0 ats))/\Below W.heap.size W w':=by
 obtain⟨o,cap,rfl,h1,h2,h3,h4⟩:=h;have hlen:(ats.length:Int)<=9223372036854775807:=by rw[bq] at h2;omega
 by_cases h0:ats.length=0
 ·obtain rfl:ats=[]:=iC.1 h0;clear h4;go_enter func168,ntmps168;go_wp2_with fail
  go_loopw [8] (fun y wr=>y=aa 0/\wr=W) (fun _ _=>0)
  case atStart=>exact⟨rfl,rfl⟩
  case round=>
   obtain⟨rfl,rfl⟩:=hrel;go_wp2_with fail;go_ret;exact⟨rfl,aG _ _⟩
 ·obtain⟨x0,hx0, -⟩:=drop_at (l:=ats) (k:=0) (by omega);obtain⟨b,off,rfl, -⟩:=h4 0 x0 hx0;have H4:=aj h4;clear h4 hx0 h3 x0;go_enter func168,ntmps168;go_wp2_with fail
  go_loopw [8] (fun y wr=>∃k:Nat,k<=ats.length/\y=aa k/\fI nm 0 ats=fI nm k (ats.drop k)/\Below W.heap.size W wr) (fun y _=>ats.length-(intOf y).toNat)
  case atStart=>exact⟨0,aP _,rfl,rfl,aG _ _⟩
  case round=>
   obtain⟨k,hk,rfl,hf,hb⟩:=hrel;by_cases hlt:k<ats.length
   ·have hlt':(k:Int)<(ats.length:Int):=by omega
    obtain⟨x,hx,hd⟩:=drop_at hlt;obtain⟨b',off',e,c0,c1, -⟩:=H4.out k x hx;simp only[Option.some.injEq,Addr.mk.injEq,and_true] at e;obtain⟨rfl,rfl⟩:=e;have k0:=(hb.cell (az c0)).trans c0;have k1:=(hb.cell (az c1)).trans c1;have hB1:=(hb.cell (az hB)).trans hB;have HS:=Ho x nm B wr hB1;rw[hd] at hf;clear c0 c1 hx hd;unfold gT at k0 k1;cases hs:(x.1==nm) with
    |true=>
     rw[hs] at HS;have hf':Hid (fI nm 0 ats=k):=(by rw[hf];unfold fI;rw[if_pos hs]:fI nm 0 ats=k);clear hf hs;go_wp2_with(go_at_call 122;refine HS.mono ?_;rintro e w1 ⟨rfl,hb1⟩);go_ret;exact⟨by rw[hf'.out];rfl,aH hb hb1⟩
    |false=>
     rw[hs] at HS;have hf0:fI nm k (x::ats.drop (k+1))=fI nm (k+1) (ats.drop (k+1)):=by rw[fI,if_neg (by rw[hs];simp)]
     have hf':Hid (fI nm 0 ats=fI nm (k+1) (ats.drop (k+1))):=hf.trans hf0;clear hf0;clear hf hs;go_wp2_with(go_at_call 122;refine HS.mono ?_;rintro e w1 ⟨rfl,hb1⟩)
     go_roundw
     case rel=>exact⟨k+1,by omega,by go_num,hf'.out,aH hb hb1⟩
     case measure=>simp[intOf];omega
   ·obtain rfl:k=ats.length:=by omega
    have hf':Hid (fI nm 0 ats= -1):=(by rw[hf,List.drop_length];rfl:fI nm 0 ats= -1);clear hf;go_wp2_with fail;go_ret;exact⟨by rw[hf'.out];rfl,hb⟩
theorem xW (ats:List (Bs×Bs))(nm:Bs)(B:Nat)(v:ah)(W:ag)(h:mY W v ats)(hB:W.cell? (ak B 0)=some (gT nm)):
  au 121 #[v,.func (.func 122) #[] #[ay B]] W fun e w'=>e=.returned (.bool (ats.any (fun x=>x.1==nm)))/\Below W.heap.size W w':=by
 have HI:=Eo ats nm B v W h hB;rw[<- Xz nm ats 0];generalize fI nm 0 ats=z at HI⊢;go_enter func121,ntmps121;go_wp2_with(go_at_call 168;refine HI.mono ?_;rintro e w1 ⟨rfl,hb1⟩);go_ret;exact⟨rfl,hb1⟩
structure CE (E:Nat->Addr)(w:ag):Prop where
 c4:w.cell? (ak 4 0)=some (.iface 401 (.pointer (some (E 4))))
 c6:w.cell? (ak 6 0)=some (.iface 401 (.pointer (some (E 6))))
 c7:w.cell? (ak 2 0)=some (.iface 401 (.pointer (some (E 7))))
 c8:w.cell? (ak 7 0)=some (.iface 401 (.pointer (some (E 8))))
 c10:w.cell? (ak 9 0)=some (.iface 401 (.pointer (some (E 10))))
theorem CE.below {E:Nat->Addr}{w w':ag}(h:CE E w)(hb:Below w.heap.size w w'):CE E w' where
 c4:=(hb.cell (az h.c4)).trans h.c4
 c6:=(hb.cell (az h.c6)).trans h.c6
 c7:=(hb.cell (az h.c7)).trans h.c7
 c8:=(hb.cell (az h.c8)).trans h.c8
 c10:=(hb.cell (az h.c10)).trans h.c10
structure ME (E:Nat->Addr)(w:ag):Prop where
 c2:w.cell? (ak 0 0)=some (.iface 401 (.pointer (some (E 2))))
 c4:w.cell? (ak 4 0)=some (.iface 401 (.pointer (some (E 4))))
 c6:w.cell? (ak 6 0)=some (.iface 401 (.pointer (some (E 6))))
 c7:w.cell? (ak 2 0)=some (.iface 401 (.pointer (some (E 7))))
 c8:w.cell? (ak 7 0)=some (.iface 401 (.pointer (some (E 8))))
 c10:w.cell? (ak 9 0)=some (.iface 401 (.pointer (some (E 10))))
theorem ME.below {E:Nat->Addr}{w w':ag}(h:ME E w)(hb:Below w.heap.size w w'):ME E w' where
 c2:=(hb.cell (az h.c2)).trans h.c2
 c4:=(hb.cell (az h.c4)).trans h.c4
 c6:=(hb.cell (az h.c6)).trans h.c6
 c7:=(hb.cell (az h.c7)).trans h.c7
 c8:=(hb.cell (az h.c8)).trans h.c8
 c10:=(hb.cell (az h.c10)).trans h.c10
theorem ME.ce {E:Nat->Addr}{w:ag}(h:ME E w):CE E w:=⟨h.c4,h.c6,h.c7,h.c8,h.c10⟩
def TQ (E:Nat->Addr)(c:Nat):ah:=if c=0 then .nilIface else .iface 401 (.pointer (some (E c)))
theorem sG (E:Nat->Addr):TQ E 0=.nilIface:=rfl
theorem jf (E:Nat->Addr){c:Nat}(h:c≠0):TQ E c=.iface 401 (.pointer (some (E c))):=by unfold TQ;rw[if_neg h]
def QG (ahead:List (Bs×Bs))(a:Bs×Bs):Nat:=if gG a.1=true then(if ahead.any (fun x=>x.1==a.1)=true then 6 else if isVal a.2=true then 0 else 10) else 4
theorem bT (W:ag)(o:Obj):Below W.heap.size W (W.alloc o):=(aG W.heap.size W).alloc ai o
theorem iJ (W:ag)(cs:Array ah)(t:TypeId)(i:Nat)(v:ah)(h:cs[i]? =some v):(W.alloc (.cells cs t)).cell? ⟨W.heap.size,i,none⟩=some v:=by
 have e:(W.alloc (.cells cs t)).heap[W.heap.size]? =some (.cells cs t):=by show(W.heap.push (.cells cs t))[W.heap.size]? =_;simp
 unfold World.cell?;simp only[e];simpa using h
theorem uu (E:Nat->Addr)(a:Bs×Bs)(ats:List (Bs×Bs))(v:ah)(W:ag)(hE:CE E W)(h:mY W v ats)(l1:a.1.length<=maxLen)(l2:a.2.length<=maxLen):
  au 70 #[atV a,v] W fun e w'=>e=.returned (TQ E (QG ats a))/\Below W.heap.size W w':=by
 have b0:=bT W (.cells #[.string ⟨a.1.toArray⟩,.string ⟨a.2.toArray⟩] 100);have n0:=iJ W #[.string ⟨a.1.toArray⟩,.string ⟨a.2.toArray⟩] 100 0 _ rfl;have n1:=iJ W #[.string ⟨a.1.toArray⟩,.string ⟨a.2.toArray⟩] 100 1 _ rfl;have HN:=iN ⟨a.1.toArray⟩ (by rw[fU,<- bq];exact l1) (W.alloc (.cells #[.string ⟨a.1.toArray⟩,.string ⟨a.2.toArray⟩] 100));have HC:=xW ats a.1 W.heap.size v _ (h.below b0) n0;have HV:=fun V=>zm ⟨a.2.toArray⟩ (by rw[fU,<- bq];exact l2) V;have hE1:=hE.below b0;obtain⟨o,cap,rfl,_,_,_,_⟩:=h;have e4:=hE1.c4;unfold QG;unfold atV gT;cases hn:gG a.1 with
 |false=>
  rw[show gG (⟨a.1.toArray⟩:aC).data.toList=false from hn] at HN;rw[if_neg (by simp),jf E (by decide)];clear HC HV n1;go_enter func70,ntmps70;go_wp2_with(go_at_call 69;refine HN.mono ?_;rintro e w1 ⟨rfl,rfl⟩);go_ret;exact⟨rfl,b0⟩
 |true=>
  rw[show gG (⟨a.1.toArray⟩:aC).data.toList=true from hn] at HN;rw[if_pos rfl];cases ha:ats.any (fun x=>x.1==a.1) with
  |true=>
   rw[ha] at HC;rw[if_pos rfl,jf E (by decide)];clear HV n1 e4;go_enter func70,ntmps70;go_wp2_with(first|(go_at_call 69;refine HN.mono ?_;rintro e w1 ⟨rfl,rfl⟩)|(go_at_call 121;refine HC.mono ?_;rintro e w2 ⟨rfl,hb2⟩;have e6:=(hE1.below hb2).c6));go_ret;exact⟨rfl,aH b0 hb2⟩
  |false=>
   rw[ha] at HC;rw[if_neg (by simp)];cases hv:isVal a.2 with
   |true=>
    rw[show isVal (⟨a.2.toArray⟩:aC).data.toList=true from hv] at HV;rw[if_pos rfl,sG];clear e4;go_enter func70,ntmps70;go_wp2_with(first|(go_at_call 69;refine HN.mono ?_;rintro e w1 ⟨rfl,rfl⟩)|(go_at_call 121;refine HC.mono ?_;rintro e w2 ⟨rfl,hb2⟩;have k1:=(hb2.cell (az n1)).trans n1)|(go_at_call 123;refine(HV _).mono ?_;rintro e w3 ⟨rfl,rfl⟩));go_ret;exact⟨rfl,aH b0 hb2⟩
   |false=>
    rw[show isVal (⟨a.2.toArray⟩:aC).data.toList=false from hv] at HV;rw[if_neg (by simp),jf E (by decide)];clear e4;go_enter func70,ntmps70;go_wp2_with(first|(go_at_call 69;refine HN.mono ?_;rintro e w1 ⟨rfl,rfl⟩)|(go_at_call 121;refine HC.mono ?_;rintro e w2 ⟨rfl,hb2⟩;have k1:=(hb2.cell (az n1)).trans n1;have e10:=(hE1.below hb2).c10)|(go_at_call 123;refine(HV _).mono ?_;rintro e w3 ⟨rfl,rfl⟩));go_ret;exact⟨rfl,aH b0 hb2⟩
end
section
open Go.RowKit
set_option maxRecDepth 20000
def Ea:List (Bs×Bs)->List (Bs×Bs)->Nat
 |_,[]=>0
 |pre,a::r=>if QG pre a=0 then Ea (pre++[a]) r else QG pre a
def ck1 (nm:Bs)(ats:List (Bs×Bs))(deep ahead:Nat):Nat:=if 10<deep then 8 else if 100<=ahead then 7 else if gG nm=true then(if 12<ats.length then 7 else Ea [] ats) else 4
theorem XA {ats:List (Bs×Bs)}{k:Nat}{x:Bs×Bs}(hx:ats[k]? =some x)(hd:ats.drop k=x::ats.drop (k+1))(h:QG (ats.take k) x=0):Ea (ats.take k) (ats.drop k)=Ea (ats.take (k+1)) (ats.drop (k+1)):=by
 rw[hd,Ea,if_pos h,List.take_add_one,hx];rfl
theorem mY.take {w:ag}{b off cap:Nat}{ats:List (Bs×Bs)}(k:Nat)(hk:k<=ats.length)(hc:ats.length<=cap)(hm:cap<=maxLen)(h:BV w (some ⟨b,off,none⟩) ats):mY w (.slice (some ⟨b,off,none⟩) k cap) (ats.take k):=
 ⟨some ⟨b,off,none⟩,cap,by rw[List.length_take,Nat.min_eq_left hk],by rw[List.length_take];omega,hm,(fun e=>nomatch e),fun i x hx=>h i x (by rw[List.getElem?_take] at hx;split at hx;exact hx;cases hx)⟩
theorem TS (E:Nat->Addr)(nm:Bs)(ats:List (Bs×Bs))(nk eT cap b off:Nat)(ok:Option Addr)(deep ahead:Nat)(W:ag)(hE:CE E W)(h4:BV W (some ⟨b,off,none⟩) ats)(hc:ats.length<=cap)(hm:cap<=maxLen)(hl:nm.length<=maxLen)
  (hd:deep<=10) (ha:ahead<100) (hn:gG nm=true) (h12:ats.length<=12):
  au 39 #[.agg #[gT nm,.slice (some ⟨b,off,none⟩) ats.length cap,.slice ok nk eT],aa deep,aa ahead] W fun e w'=>e=.returned (TQ E (Ea [] ats))/\Below W.heap.size W w':=by
 have b0:=bT W (.cells #[.string ⟨nm.toArray⟩,.slice (some ⟨b,off,none⟩) ats.length cap,.slice ok nk eT] 36);have n0:=iJ W #[.string ⟨nm.toArray⟩,.slice (some ⟨b,off,none⟩) ats.length cap,.slice ok nk eT] 36 0 (.string ⟨nm.toArray⟩) rfl;have n1:=iJ W #[.string ⟨nm.toArray⟩,.slice (some ⟨b,off,none⟩) ats.length cap,.slice ok nk eT] 36 1 (.slice (some ⟨b,off,none⟩) ats.length cap) rfl;have HN:=iN ⟨nm.toArray⟩ (by rw[fU,<- bq];exact hl) (W.alloc (.cells #[.string ⟨nm.toArray⟩,.slice (some ⟨b,off,none⟩) ats.length cap,.slice ok nk eT] 36));rw[show gG (⟨nm.toArray⟩:aC).data.toList=true from hn] at HN;have H4:=aj h4;have HE:=aj hE;clear h4 hE hn;unfold gT;go_enter func39,ntmps39;go_wp2_with(go_at_call 69;refine HN.mono ?_;rintro e w1 ⟨rfl,rfl⟩);clear HN;obtain⟨W1,hW1⟩:∃V,W.alloc (.cells #[.string ⟨nm.toArray⟩,.slice (some ⟨b,off,none⟩) ats.length cap,.slice ok nk eT] 36)=V:=⟨_,rfl⟩;rw[hW1] at b0 n0 n1⊢;clear hW1
 go_loopw [33] (fun y wr=>∃k:Nat,k<=ats.length/\y=aa k/\Ea [] ats=Ea (ats.take k) (ats.drop k)/\Below W1.heap.size W1 wr) (fun y _=>ats.length-(intOf y).toNat)
 case atStart=>exact⟨0,aP _,rfl,rfl,aG _ _⟩
 case round=>
  obtain⟨k,hk,rfl,hf,hb⟩:=hrel;have HF:=aj hf;clear hf;by_cases hlt:k<ats.length
  ·have hlt':(k:Int)<(ats.length:Int):=by omega
   have hkc:(k:Int)<=(cap:Int):=by omega
   obtain⟨x,hx,hdr⟩:=drop_at hlt;obtain⟨b',off',e,c0,c1,l1,l2⟩:=H4.out k x hx;simp only[Option.some.injEq,Addr.mk.injEq,and_true] at e;obtain⟨rfl,rfl⟩:=e;have bw:=aH b0 hb;have k0:=(bw.cell (az c0)).trans c0;have k1:=(bw.cell (az c1)).trans c1;have m1:=(hb.cell (az n1)).trans n1;clear c0 c1;unfold gT at k0 k1;have HX:Hid (ats[k]? =some x/\ats.drop k=x::ats.drop (k+1)):=⟨hx,hdr⟩;clear hx hdr;have q0:=iJ wr #[.string ⟨x.1.toArray⟩,.string ⟨x.2.toArray⟩] 100 0 (.string ⟨x.1.toArray⟩) rfl;have q1:=iJ wr #[.string ⟨x.1.toArray⟩,.string ⟨x.2.toArray⟩] 100 1 (.string ⟨x.2.toArray⟩) rfl;have q2:=bK (.cells #[.string ⟨x.1.toArray⟩,.string ⟨x.2.toArray⟩] 100) m1;have bU:=bT wr (.cells #[.string ⟨x.1.toArray⟩,.string ⟨x.2.toArray⟩] 100);go_upto_region 12 with fail;obtain⟨U,hU⟩:∃V,wr.alloc (.cells #[.string ⟨x.1.toArray⟩,.string ⟨x.2.toArray⟩] 100)=V:=⟨_,rfl⟩;rw[hU] at q0 q1 q2 bU⊢;clear hU k0 k1 m1;have hl1:=l1;have hl2:=l2;by_cases hz:QG (ats.take k) x=0
   ·have qA:∀d os,au 70 #[.agg #[.string ⟨x.1.toArray⟩,.string ⟨x.2.toArray⟩],.slice (some ⟨b,off,none⟩) k cap] (Go.Sort.grow (redrawn U d) os) fun e w''=>e=.returned .nilIface/\∃p:Regrown,w''=Go.Sort.grow (redrawn U p.d) p.os:=fun d os=>by
     have:=uu E x (ats.take k) (.slice (some ⟨b,off,none⟩) k cap) (Go.Sort.grow (redrawn U d) os) (HE.out.below (aH (aH bw bU) (below_regrown U d os))) (mY.take k hk hc hm (H4.out.below (aH (aH bw bU) (below_regrown U d os)))) hl1 hl2;rw[hz,sG] at this;exact Calls.regrown_of this
    have HZ:Hid (Ea [] ats=Ea (ats.take (k+1)) (ats.drop (k+1))):=HF.out.trans (XA HX.out.1 HX.out.2 hz);clear hz l1 l2 hl1 hl2;have r0:=cell_regrown q0;have r1:=cell_regrown q1;have r2:=cell_regrown q2;refine wp_region_quiet_below (by kernel_rfl) (by kernel_rfl) ?_
    repeat(quiet_step (first|(go_at_call 70;exact qA _ _)))
    refine wpQuiet_nil ?_;intro _ hw';obtain⟨pq,hw''⟩:=hw';subst hw'';clear r0 r1 r2 qA q0 q1 q2;have yK:=aH (aH hb bU) (below_regrown U pq.d pq.os);generalize Go.Sort.grow (redrawn U pq.d) pq.os=V at yK⊢;go_wp2_with fail
    go_roundw
    case rel=>exact⟨k+1,by omega,by go_num,HZ.out,yK⟩
    case measure=>simp[intOf];omega
   ·have qA:∀d os,au 70 #[.agg #[.string ⟨x.1.toArray⟩,.string ⟨x.2.toArray⟩],.slice (some ⟨b,off,none⟩) k cap] (Go.Sort.grow (redrawn U d) os) fun e w''=>e=.returned (.iface 401 (.pointer (some (E (QG (ats.take k) x)))))/\∃p:Regrown,w''=Go.Sort.grow (redrawn U p.d) p.os:=fun d os=>by
     have:=uu E x (ats.take k) (.slice (some ⟨b,off,none⟩) k cap) (Go.Sort.grow (redrawn U d) os) (HE.out.below (aH (aH bw bU) (below_regrown U d os))) (mY.take k hk hc hm (H4.out.below (aH (aH bw bU) (below_regrown U d os)))) hl1 hl2;rw[jf E hz] at this;exact Calls.regrown_of this
    have HZ:Hid (Ea [] ats=QG (ats.take k) x):=(by rw[HF.out,HX.out.2,Ea,if_neg hz]:Ea [] ats=QG (ats.take k) x);have HP:=aj hz;clear hz l1 l2 hl1 hl2;generalize QG (ats.take k) x=z at qA HZ HP;have r0:=cell_regrown q0;have r1:=cell_regrown q1;have r2:=cell_regrown q2;refine wp_region_quiet_below (by kernel_rfl) (by kernel_rfl) ?_
    repeat(quiet_step (first|(go_at_call 70;exact qA _ _)))
    refine wpQuiet_nil ?_;intro _ hw';obtain⟨pq,hw''⟩:=hw';subst hw'';clear r0 r1 r2 qA q0 q1 q2;have yK:=aH (aH bw bU) (below_regrown U pq.d pq.os);generalize Go.Sort.grow (redrawn U pq.d) pq.os=V at yK⊢;go_wp2_with fail;go_ret;exact⟨by rw[HZ.out,jf E HP.out];rfl,yK⟩
  ·obtain rfl:k=ats.length:=by omega
   have hz:Hid (Ea [] ats=0):=(by rw[HF.out,List.drop_length];rfl:Ea [] ats=0);go_wp2_with fail;go_ret;exact⟨by rw[hz.out];rfl,aH b0 hb⟩
theorem Hq (E:Nat->Addr)(nm:Bs)(ats:List (Bs×Bs))(ks:List Nd)(c1 c2:ah)(deep ahead:Nat)(W:ag)(hE:CE E W)(h:nG W (gT nm) c1 c2 (.mk nm ats ks))(hdp:deep<=1000)(hah:ahead<=1000):
  au 39 #[.agg #[gT nm,c1,c2],aa deep,aa ahead] W fun e w'=>e=.returned (TQ E (ck1 nm ats deep ahead))/\Below W.heap.size W w':=by
 unfold nG at h;obtain⟨-,hl,⟨o,cap,rfl,hc,hm,h0,h4⟩,ok,eT,rfl, -⟩:=h;generalize ks.length=nk;have b0:=bT W (.cells #[.string ⟨nm.toArray⟩,.slice o ats.length cap,.slice ok nk eT] 36);have n0:=iJ W #[.string ⟨nm.toArray⟩,.slice o ats.length cap,.slice ok nk eT] 36 0 (.string ⟨nm.toArray⟩) rfl;have n1:=iJ W #[.string ⟨nm.toArray⟩,.slice o ats.length cap,.slice ok nk eT] 36 1 (.slice o ats.length cap) rfl;have HN:=iN ⟨nm.toArray⟩ (by rw[fU,<- bq];exact hl) (W.alloc (.cells #[.string ⟨nm.toArray⟩,.slice o ats.length cap,.slice ok nk eT] 36));have hE1:=hE.below b0;have hm':(ats.length:Int)<=9223372036854775807:=by rw[bq] at hm;omega
 unfold ck1;by_cases g1:10<deep
 ·rw[if_pos g1,jf E (by decide)];have g1':10<(deep:Int):=by omega
  have e8:=hE1.c8;clear HN n1 n0;unfold gT;go_enter func39,ntmps39;go_wp2_with fail;go_ret;exact⟨rfl,b0⟩
 ·rw[if_neg g1];have g1':(deep:Int)<=10:=by omega
  by_cases g2:100<=ahead
  ·rw[if_pos g2,jf E (by decide)];have g2':100<=(ahead:Int):=by omega
   have e7:=hE1.c7;clear HN n1 n0;unfold gT;go_enter func39,ntmps39;go_wp2_with fail;go_ret;exact⟨rfl,b0⟩
  ·rw[if_neg g2];have g2':(ahead:Int)<100:=by omega
   cases hn:gG nm with
   |false=>
    rw[show gG (⟨nm.toArray⟩:aC).data.toList=false from hn] at HN;rw[if_neg (by simp),jf E (by decide)];have e4:=hE1.c4;clear n1;unfold gT;go_enter func39,ntmps39;go_wp2_with(go_at_call 69;refine HN.mono ?_;rintro e w1 ⟨rfl,rfl⟩);go_ret;exact⟨rfl,b0⟩
   |true=>
    rw[show gG (⟨nm.toArray⟩:aC).data.toList=true from hn] at HN;rw[if_pos rfl];by_cases g3:12<ats.length
    ·rw[if_pos g3,jf E (by decide)];have g3':12<(ats.length:Int):=by omega
     have e7:=hE1.c7;unfold gT;go_enter func39,ntmps39;go_wp2_with(go_at_call 69;refine HN.mono ?_;rintro e w1 ⟨rfl,rfl⟩);go_ret;exact⟨rfl,b0⟩
    ·rw[if_neg g3];by_cases hz:ats.length=0
     ·obtain rfl:ats=[]:=iC.1 hz;rw[show Ea [] []=0 from rfl,sG];clear h4 hm';unfold gT;go_enter func39,ntmps39;go_wp2_with(go_at_call 69;refine HN.mono ?_;rintro e w1 ⟨rfl,rfl⟩)
      go_loopw [33] (fun y wr=>y=aa 0/\Below W.heap.size W wr) (fun _ _=>0)
      case atStart=>exact⟨rfl,b0⟩
      case round=>
       obtain⟨rfl,hb⟩:=hrel;go_wp2_with fail;go_ret;exact⟨rfl,hb⟩
     ·obtain⟨x0,hx0, -⟩:=drop_at (l:=ats) (k:=0) (by omega);obtain⟨b,off,rfl, -⟩:=h4 0 x0 hx0;exact TS E nm ats nk eT cap b off ok deep ahead W hE h4 hc hm hl (by omega) (by omega) hn (by omega)
structure bO (b:Nat)(W w:ag):Prop where
 os:w.os=W.os
 tape:w.tape=W.tape
 output:w.output=W.output
 size:W.heap.size<=w.heap.size
 block:∀k,k<W.heap.size->k≠b->w.heap[k]? =W.heap[k]?
theorem bO.trans {b:Nat}{A B C:ag}(h:bO b A B)(k:bO b B C):bO b A C:=
 ⟨k.os.trans h.os,k.tape.trans h.tape,k.output.trans h.output,aJ h.size k.size,fun i hi hb=>(k.block i (bI hi h.size) hb).trans (h.block i hi hb)⟩
theorem bO.of_below {b:Nat}{A B:ag}(h:Below A.heap.size A B):bO b A B:=⟨h.os,h.tape,h.output,h.size,fun i hi _=>h.block i hi⟩
theorem bO.below {b n:Nat}{A B:ag}(h:bO b A B)(hb:n<=b)(hn:n<=A.heap.size):Below n A B:=⟨h.os,h.tape,h.output,h.size,fun i hi=>h.block i (by omega) (by omega)⟩
theorem bO.setCell {b:Nat}{A B:ag}(h:bO b A B)(v:ah):bO b A (B.setCell ⟨b,0,none⟩ v):=by
 have hs:=(aG b B).setCell (p:=⟨b,0,none⟩) ai v;refine⟨hs.os.trans h.os,hs.tape.trans h.tape,hs.output.trans h.output,aJ h.size hs.size,fun i hi hb=>?_⟩;exact(aY _ _ _ i hb).trans (h.block i hi hb)
theorem bO.cell {b:Nat}{A B:ag}(h:bO b A B){p:Addr}{v:ah}(hp:A.cell? p=some v)(hb:p.block≠b):B.cell? p=some v:=by
 rw[<- hp];unfold World.cell?;rw[h.block p.block (az hp) hb]
theorem QH {B:Nat}{w w':ag}{p:Addr}(hb:Below B w w')(hp:p.block<B):w'.frozen? p=w.frozen? p:=by
 unfold World.frozen?;rw[hb.block _ hp]
theorem adf {w:ag}{b:Nat}{u v:ah}(h:w.cell? (ak b 0)=some u):(w.setCell ⟨b,0,none⟩ v).cell? (ak b 0)=some v:=by
 exact World.cell?_setCell_same w _ v h
theorem TT {w:ag}{b:Nat}{v:ah}(h:w.frozen? ⟨b,0,none⟩=false):(w.setCell ⟨b,0,none⟩ v).frozen? ⟨b,0,none⟩=false:=by
 have:=World.frozen?_setCell w ⟨b,0,none⟩ ⟨b,0,none⟩ v;rw[this];exact h
theorem Nd.ind {P:Nd->Prop}(h:∀nm ats ks,(∀k∈ks,P k)->P (.mk nm ats ks)):∀n,P n:=by
 suffices H:(∀n,P n) by exact H
 intro n;exact Nd.rec (motive_1:=P) (motive_2:=fun l=>∀k∈l,P k) (fun nm ats ks ih=>h nm ats ks ih) (by simp) (fun k l hk hl=>by
  intro j hj;rcases List.mem_cons.1 hj with rfl|hj
  ·exact hk
  ·exact hl j hj) n
mutual
def ig:Nd->Nat->Nat->Nat×Nat
 | .mk nm ats ks,deep,ahead=>if ck1 nm ats deep ahead=0 then sH ks (deep+1) (ahead+1) else(ck1 nm ats deep ahead,ahead)
def sH:List Nd->Nat->Nat->Nat×Nat
 |[],_,ahead=>(0,ahead)
 |k::l,deep,ahead=>if(ig k deep ahead).1=0 then sH l deep (ig k deep ahead).2 else ig k deep ahead
end
theorem wL {nm:Bs}{ats:List (Bs×Bs)}{deep ahead:Nat}(h:ck1 nm ats deep ahead=0):deep<=10/\ahead<100:=by
 unfold ck1 at h;split at h
 ·cases h
 ·split at h
  ·cases h
  ·omega
mutual
theorem Hr:∀(n:Nd) (deep ahead:Nat),(ig n deep ahead).1=0->(ig n deep ahead).2<=100
 | .mk nm ats ks,deep,ahead,h=>by
  unfold ig at h⊢;split at h
  ·rename_i h1;rw[if_pos h1];exact XC ks _ _ (wL h1).2 h
  ·rename_i h1;exact(h1 h).elim
theorem XC:∀(l:List Nd) (deep ahead:Nat),ahead<=100->(sH l deep ahead).1=0->(sH l deep ahead).2<=100
 |[],deep,ahead,ha,_=>by unfold sH;exact ha
 |k::l,deep,ahead,ha,h=>by
  unfold sH at h⊢;split at h
  ·rename_i h1;rw[if_pos h1];exact XC l _ _ (Hr k _ _ h1) h
  ·rename_i h1;exact(h1 h).elim
end
theorem C8 {nm:Bs}{ats:List (Bs×Bs)}{ks:List Nd}{deep ahead:Nat}(h:ck1 nm ats deep ahead=0):ig (.mk nm ats ks) deep ahead=sH ks (deep+1) (ahead+1):=by rw[ig,if_pos h]
theorem nV {k:Nd}{l:List Nd}{deep ahead:Nat}(h:(ig k deep ahead).1=0):sH (k::l) deep ahead=sH l deep (ig k deep ahead).2:=by rw[sH,if_pos h]
theorem wM {k:Nd}{l:List Nd}{deep ahead:Nat}(h:(ig k deep ahead).1≠0):sH (k::l) deep ahead=ig k deep ahead:=by rw[sH,if_neg h]
def Flt (E:Nat->Addr)(B:Nat)(r:Nat×Nat)(e:Ending)(w:ag):Prop:=∃pb,B<=pb/\e=.returned (.iface 90 (ay pb))/\w.cell? (ak pb 0)=some (aa r.2)/\w.cell? (ak pb 1)=some (.iface 401 (.pointer (some (E r.1))))
def Chk (E:Nat->Addr)(W0:ag)(PA PW:Nat)(n:Nd):Prop:=∀(c0 c1 c2:ah) (deep ahead:Nat) (W:ag),nG W0 c0 c1 c2 n->deep<=11->ahead<=100->Below W0.heap.size W0 W->
 W.cell? (ak PA 0)=some (aa ahead)->W.frozen? ⟨PA,0,none⟩=false->W.cell? (ak PW 0)=some (.func (.func 38) #[] #[ay PA,ay PW])->
 au 38 #[.agg #[c0,c1,c2],aa deep,ay PA,ay PW] W fun e w'=>bO PA W w'/\
  (((ig n deep ahead).1=0/\e=.returned .nilIface/\w'.cell? (ak PA 0)=some (aa (ig n deep ahead).2)/\w'.frozen? ⟨PA,0,none⟩=false)\/((ig n deep ahead).1≠0/\Flt E W.heap.size (ig n deep ahead) e w'))
theorem a1p (E:Nat->Addr)(W0:ag)(PA PW:Nat)(hE:CE E W0)(hA:W0.heap.size<=PA)(hne:PW≠PA):∀n,Chk E W0 PA PW n:=by
 refine Nd.ind fun nm ats ks ih=>?_;intro c0 c1 c2 deep ahead W hn hd ha hb cA fA cP;have hn':=hn;unfold nG at hn';obtain⟨rfl,hl,⟨o1,fo,rfl,_,_,_,_⟩,ok,eT,rfl,hkc,hkm,hk0,hks⟩:=hn';have HO:=Hq E nm ats ks (.slice o1 ats.length fo) (.slice ok ks.length eT) deep ahead;have b0:=bT W (.cells #[.string ⟨nm.toArray⟩,.slice o1 ats.length fo,.slice ok ks.length eT] 36);have n0:=iJ W #[.string ⟨nm.toArray⟩,.slice o1 ats.length fo,.slice ok ks.length eT] 36 0 (.string ⟨nm.toArray⟩) rfl;have n2:=iJ W #[.string ⟨nm.toArray⟩,.slice o1 ats.length fo,.slice ok ks.length eT] 36 2 (.slice ok ks.length eT) rfl;have cA1:=(b0.cell (az cA)).trans cA;have bW:=hb.trans (b0.mono hb.size);have HO1:=HO _ ((hE.below bW)) (nG.below bW (.mk nm ats ks) hn) (by omega) (by omega);clear HO;unfold gT at*;have ltA:=az cA;have ltP:=az cP;simp only at ltA ltP;by_cases hz:ck1 nm ats deep ahead=0
 ·rw[hz,sG] at HO1;have hr:ig (.mk nm ats ks) deep ahead=sH ks (deep+1) (ahead+1):=C8 hz;rw[hr];obtain⟨hd1,ha1⟩:=wL hz;clear hr hz;have fA1:=(QH b0 (p:=⟨PA,0,none⟩) ltA).trans fA;have cP1:=(b0.cell (az cP)).trans cP;have a9j:(ks.length:Int)<=9223372036854775807:=by rw[bq] at hkm;omega
  have HKS:=aj hks;have IH:=aj ih;clear hks ih;go_enter func38,ntmps38;go_wp2_with(go_at_call 39;refine HO1.mono ?_;rintro e w1 ⟨rfl,hb1⟩;have cA2:=(hb1.cell (az cA1)).trans cA1;have fA2:=(QH hb1 (p:=⟨PA,0,none⟩) (az cA1)).trans fA1;have cP2:=(hb1.cell (az cP1)).trans cP1;have m2:=(hb1.cell (az n2)).trans n2);have K1:bO PA W (w1.setCell ⟨PA,0,none⟩ (aa ((ahead:Int)+1))):=((bO.of_below b0).trans (bO.of_below hb1)).setCell _;have cA3:=adf (v:=aa ((ahead:Int)+1)) cA2;have fA3:=TT (v:=aa ((ahead:Int)+1)) fA2;have cP3:=bO.cell ((bO.of_below (aG _ w1)).setCell (b:=PA) (aa ((ahead:Int)+1))) cP2 hne;clear HO1 cA1 cA2 fA1 fA2 cP1 cP2 m2 n2 n0 hb1 b0 bW;obtain⟨V,hV⟩:∃V,w1.setCell ⟨PA,0,none⟩ (aa ((ahead:Int)+1))=V:=⟨_,rfl⟩;rw[hV] at K1 cA3 fA3 cP3⊢;clear hV;have bV:Below W0.heap.size W0 V:=hb.trans (K1.below hA hb.size);have sV:=K1.size
  go_loopw [27] (fun y wr=>∃k a:Nat,k<=ks.length/\y=aa k/\sH ks (deep+1) (ahead+1)=sH (ks.drop k) (deep+1) a/\a<=100/\bO PA V wr/\wr.cell? (ak PA 0)=some (aa a)/\wr.frozen? ⟨PA,0,none⟩=false) (fun y _=>ks.length-(intOf y).toNat)
  case atStart=>exact⟨0,ahead+1,aP _,rfl,rfl,by omega,bO.of_below (aG _ _),by rw[cA3];simp,fA3⟩
  case round=>
   obtain⟨k,a,hk,rfl,hf,hal,KV,cA4,fA4⟩:=hrel;have HF:=aj hf;clear hf;have cP4:=KV.cell cP3 hne;have bR:Below W0.heap.size W0 wr:=bV.trans (KV.below hA (aJ hb.size sV));by_cases hlt:k<ks.length
   ·have hlt':(k:Int)<(ks.length:Int):=by omega
    obtain⟨kid,hx,hdr⟩:=drop_at hlt;obtain⟨b',off',d0,d1,d2,rfl,e0,e1,e2,nZ⟩:=HKS.out.get hx;rw[Nat.zero_add] at e0 e1 e2;have hmem:kid∈ks:=fV hx;have HI:=IH.out kid hmem;have zo:=nZ;obtain⟨vQ,jF,ks'⟩:=kid;unfold nG at zo;obtain⟨rfl, -,⟨o',cap',rfl, -⟩,ok',gK,rfl, -⟩:=zo;have k0:=(bR.cell (az e0)).trans e0;have k1:=(bR.cell (az e1)).trans e1;have k2:=(bR.cell (az e2)).trans e2;unfold gT at k0 k1 k2 nZ;clear e0 e1 e2 hmem;have bU:=bT wr (.cells #[.string ⟨vQ.toArray⟩,.slice o' jF.length cap',.slice ok' ks'.length gK] 36);have u0:=iJ wr #[.string ⟨vQ.toArray⟩,.slice o' jF.length cap',.slice ok' ks'.length gK] 36 0 (.string ⟨vQ.toArray⟩) rfl;have u1:=iJ wr #[.string ⟨vQ.toArray⟩,.slice o' jF.length cap',.slice ok' ks'.length gK] 36 1 (.slice o' jF.length cap') rfl;have u2:=iJ wr #[.string ⟨vQ.toArray⟩,.slice o' jF.length cap',.slice ok' ks'.length gK] 36 2 (.slice ok' ks'.length gK) rfl;have cA5:=bK (.cells #[.string ⟨vQ.toArray⟩,.slice o' jF.length cap',.slice ok' ks'.length gK] 36) cA4;have cP5:=bK (.cells #[.string ⟨vQ.toArray⟩,.slice o' jF.length cap',.slice ok' ks'.length gK] 36) cP4;have fA5:=(QH bU (p:=⟨PA,0,none⟩) (az cA4)).trans fA4;have HC:=HI _ _ _ (deep+1) a _ nZ (by omega) hal (bR.trans (bU.mono bR.size)) cA5 fA5 cP5;rw[show((deep+1:Nat):Int)=(deep:Int)+1 from by omega] at HC;clear HI nZ cA5 fA5;have HD:=aj hdr;clear hdr hx;generalize Nd.mk vQ jF ks'=kid at HC HD;by_cases hz:(ig kid (deep+1) a).1=0
    ·have HC0:=HC.mono (R':=fun e w'=>e=.returned .nilIface/\bO PA (wr.alloc (.cells #[.string ⟨vQ.toArray⟩,.slice o' jF.length cap',.slice ok' ks'.length gK] 36)) w'/\w'.cell? (ak PA 0)=some (aa (ig kid (deep+1) a).2)/\w'.frozen? ⟨PA,0,none⟩=false) (fun e w' h=>by
      rcases h.2 with h2|h2
      ·exact⟨h2.2.1,h.1,h2.2.2⟩
      ·exact(h2.1 hz).elim)
     have HS:Hid (sH ks (deep+1) (ahead+1)=sH (ks.drop (k+1)) (deep+1) (ig kid (deep+1) a).2/\(ig kid (deep+1) a).2<=100):=⟨by rw[HF.out,HD.out];exact nV hz,Hr _ _ _ hz⟩;clear HC hz;go_wp2_with(go_at_call 38;refine HC0.mono ?_;rintro e w2 ⟨rfl,K2,cA6,fA6⟩)
     go_roundw
     case rel=>exact⟨k+1,_,by omega,by go_num,HS.out.1,HS.out.2,(KV.trans (bO.of_below bU)).trans K2,cA6,fA6⟩
     case measure=>simp[intOf];omega
    ·have HCn:=HC.mono (R':=fun e w'=>bO PA (wr.alloc (.cells #[.string ⟨vQ.toArray⟩,.slice o' jF.length cap',.slice ok' ks'.length gK] 36)) w'/\Flt E (wr.alloc (.cells #[.string ⟨vQ.toArray⟩,.slice o' jF.length cap',.slice ok' ks'.length gK] 36)).heap.size (ig kid (deep+1) a) e w') (fun e w' h=>by
      rcases h.2 with h2|h2
      ·exact(hz h2.1).elim
      ·exact⟨h.1,h2.2⟩)
     have HS:Hid (sH ks (deep+1) (ahead+1)=ig kid (deep+1) a):=(by rw[HF.out,HD.out];exact wM hz:sH ks (deep+1) (ahead+1)=ig kid (deep+1) a);have HP:=aj hz;have sR:=KV.size;clear HC hz;generalize ig kid (deep+1) a=r at HCn HS HP;go_wp2_with(go_at_call 38;refine HCn.mono ?_;rintro e w2 ⟨K2,pb,hpb,rfl,z0,z1⟩);go_ret;refine⟨((K1.trans KV).trans (bO.of_below bU)).trans K2,.inr ?_⟩;rw[HS.out];exact⟨HP.out,pb,by simp at hpb;omega,rfl,z0,z1⟩
   ·obtain rfl:k=ks.length:=by omega
    have hz:Hid (sH ks (deep+1) (ahead+1)=(0,a)):=(by rw[HF.out,List.drop_length];unfold sH;rfl:sH ks (deep+1) (ahead+1)=(0,a));go_wp2_with fail;go_ret;exact⟨K1.trans KV,.inl (by rw[hz.out];exact⟨rfl,rfl,cA4,fA4⟩)⟩
 ·rw[jf E hz] at HO1;have hr:ig (.mk nm ats ks) deep ahead=(ck1 nm ats deep ahead,ahead):=by unfold ig;rw[if_neg hz]
  rw[hr];clear hr hks ih n2;go_enter func38,ntmps38;go_wp2_with(go_at_call 39;refine HO1.mono ?_;rintro e w1 ⟨rfl,hb1⟩;have cA2:=(hb1.cell (az cA1)).trans cA1);go_ret;have z0:=iJ w1 #[aa ahead,.iface 401 (.pointer (some (E (ck1 nm ats deep ahead))))] 92 0 (aa ahead) rfl;have z1:=iJ w1 #[aa ahead,.iface 401 (.pointer (some (E (ck1 nm ats deep ahead))))] 92 1 (.iface 401 (.pointer (some (E (ck1 nm ats deep ahead))))) rfl;exact⟨((bO.of_below b0).trans (bO.of_below hb1)).trans (bO.of_below (bT w1 _)),.inr ⟨hz,w1.heap.size,(aH b0 hb1).size,rfl,z0,z1⟩⟩
end
section
open Go.RowKit
set_option maxRecDepth 20000
theorem qy (P:Program)(w:ag)(a:Addr)(m:Mode)(f:Fn)(x y:Array ah):(store a (.func f x y) m).run P w=stored P w a (.func f x y) m:=run_store P w a _ m rfl
attribute [local go_sem] qy
theorem TV (W:ag)(cs:Array ah)(t:TypeId)(i:Nat):(W.alloc (.cells cs t)).frozen? ⟨W.heap.size,i,none⟩=false:=by
 have e:(W.alloc (.cells cs t)).heap[W.heap.size]? =some (.cells cs t):=by show(W.heap.push (.cells cs t))[W.heap.size]? =_;simp
 unfold World.frozen?;simp only[e];simp
theorem C9 (E:Nat->Addr)(n:Nd)(c0 c1 c2:ah)(W:ag)(hE:CE E W)(hn:nG W c0 c1 c2 n):
  au 18 #[.agg #[c0,c1,c2]] W fun e w'=>Below W.heap.size W w'/\(((ig n 1 0).1=0/\e=.returned .nilIface)\/((ig n 1 0).1≠0/\Flt E W.heap.size (ig n 1 0) e w')):=by
 have HC:=a1p E W (W.heap.size+1) (W.heap.size+1+1) hE (by omega) (by omega) n;unfold Chk at HC;have hn':=hn;obtain⟨nm,ats,ks⟩:=n;unfold nG at hn';obtain⟨rfl, -,⟨o1,fo,rfl, -⟩,ok,eT,rfl, -⟩:=hn';have HC':=fun V h1=>HC (gT nm) (.slice o1 ats.length fo) (.slice ok ks.length eT) 1 0 V hn (by decide) (by decide) h1;clear HC;generalize Nd.mk nm ats ks=n at HC' hn⊢;unfold gT at*;have b1:=bT W (.cells #[.string ⟨nm.toArray⟩,.slice o1 ats.length fo,.slice ok ks.length eT] 36);have n0:=iJ W #[.string ⟨nm.toArray⟩,.slice o1 ats.length fo,.slice ok ks.length eT] 36 0 (.string ⟨nm.toArray⟩) rfl;have n1:=iJ W #[.string ⟨nm.toArray⟩,.slice o1 ats.length fo,.slice ok ks.length eT] 36 1 (.slice o1 ats.length fo) rfl;have n2:=iJ W #[.string ⟨nm.toArray⟩,.slice o1 ats.length fo,.slice ok ks.length eT] 36 2 (.slice ok ks.length eT) rfl;have a0:=iJ (W.alloc (.cells #[.string ⟨nm.toArray⟩,.slice o1 ats.length fo,.slice ok ks.length eT] 36)) #[aa 0] 3 0 (aa 0) rfl;have af:=TV (W.alloc (.cells #[.string ⟨nm.toArray⟩,.slice o1 ats.length fo,.slice ok ks.length eT] 36)) #[aa 0] 3 0;have b2:=bT (W.alloc (.cells #[.string ⟨nm.toArray⟩,.slice o1 ats.length fo,.slice ok ks.length eT] 36)) (.cells #[aa 0] 3);have p0:=iJ ((W.alloc (.cells #[.string ⟨nm.toArray⟩,.slice o1 ats.length fo,.slice ok ks.length eT] 36)).alloc (.cells #[aa 0] 3)) #[.func (.func 38) #[] #[.pointer (some ⟨W.heap.size+1,0,none⟩),.pointer (some ⟨W.heap.size+1+1,0,none⟩)]] 88 0 (.func (.func 38) #[] #[.pointer (some ⟨W.heap.size+1,0,none⟩),.pointer (some ⟨W.heap.size+1+1,0,none⟩)]) rfl;have b3:=bT ((W.alloc (.cells #[.string ⟨nm.toArray⟩,.slice o1 ats.length fo,.slice ok ks.length eT] 36)).alloc (.cells #[aa 0] 3)) (.cells #[.func (.func 38) #[] #[.pointer (some ⟨W.heap.size+1,0,none⟩),.pointer (some ⟨W.heap.size+1+1,0,none⟩)]] 88);simp only[dB] at a0 af p0;have a3:=(b3.cell (az a0)).trans a0;have af3:=(QH b3 (p:=⟨W.heap.size+1,0,none⟩) (az a0)).trans af
 have m0:=(b3.cell (az ((b2.cell (az n0)).trans n0))).trans ((b2.cell (az n0)).trans n0);have m1:=(b3.cell (az ((b2.cell (az n1)).trans n1))).trans ((b2.cell (az n1)).trans n1);have m2:=(b3.cell (az ((b2.cell (az n2)).trans n2))).trans ((b2.cell (az n2)).trans n2);have bb:=aH (aH b1 b2) b3;have HV:=HC' _ bb a3 af3 p0;have sz:=bb.size;clear a0 af n0 n1 n2 b1 b2 b3 HC';go_enter func18,ntmps18;go_upto_region 4 with fail;obtain⟨V,hV⟩:∃V,((W.alloc (.cells #[.string ⟨nm.toArray⟩,.slice o1 ats.length fo,.slice ok ks.length eT] 36)).alloc (.cells #[aa 0] 3)).alloc (.cells #[.func (.func 38) #[] #[.pointer (some ⟨W.heap.size+1,0,none⟩),.pointer (some ⟨W.heap.size+1+1,0,none⟩)]] 88)=V:=⟨_,rfl⟩;rw[hV] at a3 af3 m0 m1 m2 bb HV p0 sz⊢;clear hV;have HV':=HV.mono (R':=fun e w'=>∃v,e=.returned v/\bO (W.heap.size+1) V w'/\(((ig n 1 0).1=0/\v=.nilIface)\/((ig n 1 0).1≠0/\Flt E V.heap.size (ig n 1 0) (.returned v) w'))) (fun e w' h=>by
  rcases h.2 with h2|h2
  ·exact⟨_,h2.2.1,h.1,.inl ⟨h2.1,rfl⟩⟩
  ·obtain⟨h3,pb,h4,rfl,h5⟩:=h2;exact⟨_,rfl,h.1,.inr ⟨h3,pb,h4,rfl,h5⟩⟩)
 clear HV;go_wp2_with(go_at_call 38;refine HV'.mono ?_;rintro e w1 ⟨v,rfl,K1,hr⟩);go_ret;refine⟨bb.trans (K1.below (by omega) sz),?_⟩;rcases hr with⟨h1,rfl⟩|⟨h1,pb,h2,h3,h4⟩
 ·exact .inl ⟨h1,rfl⟩
 ·exact .inr ⟨h1,pb,aJ sz h2,h3,h4⟩
end
section
open Go.RowKit
set_option maxRecDepth 100000
theorem a3T:(prog.info? 75).map (·.size)=some 2:=by kernel_rfl
theorem a9l:liesAt prog prog.depth 75 (2/prog.cellsOf 75) 0 75 1=true:=by kernel_rfl
theorem TW (b:Nat)(w:ag)(h0:w.cell? (ak b 0)=some (ay b)):
  au 63 #[ay b] w fun e w'=>e=.returned (.tuple #[])/\w'=w:=by
 obtain⟨j,hj, -⟩:=Option.map_eq_some_iff.1 a3T;go_enter func63,ntmps63;go_wp2;rw[Lib.run_neq_ptr_same w _ underlying72 hj];go_wp2
 go_end0
 exact⟨rfl,rfl⟩
theorem Oc (b:Nat)(w:ag)(h0:w.cell? (ak b 0)=some (.pointer none))(hs:w.shape? b=some (75,2))(hf:w.frozen? ⟨b,0,none⟩=false):
  au 63 #[ay b] w fun e w'=>e=.returned (.tuple #[])/\w'=w.setCell ⟨b,0,none⟩ (ay b):=by
 obtain⟨j,hj,hjs⟩:=Option.map_eq_some_iff.1 a3T;go_enter func63,ntmps63;go_wp2;rw[Lib.run_to_unsafe w ⟨b,0,none⟩ underlying72 underlying181 hj (by rw[hjs];decide) hs (Nat.zero_lt_succ 1)];simp only[Result.andThen];rw[Oper.upon_value];go_wp2;rw[run_callFunc_extern func114 (by kernel_rfl) (by kernel_rfl) (by kernel_rfl) (e:=Extern.AbiNoEscape.same) (by kernel_rfl),Lib.run_noEscape];simp only[Result.andThen];rw[Oper.upon_value];go_wp2;rw[Lib.run_from_unsafe w ⟨b,0,none⟩ underlying181 underlying72 hj hs a9l];simp only[Result.andThen];rw[Oper.upon_value];go_wp2
 go_end0
 exact⟨rfl,rfl⟩
abbrev Bd (B b:Nat)(l:Bs)(w:ag):Prop:=Lib.IsBuilderF 75 5 B b (Lib.byteCells l) w
structure zS (B b:Nat)(w w':ag):Prop where
 low:Below B w w'
 oth:Lib.OthersKept 5 (some b) w w'
theorem zS.trans {B b:Nat}{w w' w'':ag}(h:zS B b w w')(k:zS B b w' w''):zS B b w w'':=⟨h.low.trans k.low,h.oth.trans k.oth⟩
theorem zS.refl (B b:Nat)(w:ag):zS B b w w:=⟨aG _ _,Lib.OthersKept.refl _ _ _⟩
theorem Ld (B b:Nat)(l:Bs)(w:ag)(h:Bd B b l w):au 63 #[ay b] w fun e w'=>e=.returned (.tuple #[])/\Lib.BuilderAtF 75 5 B b (ay b) (Lib.byteCells l) w'/\zS B b w w':=by
 rcases h with h|h
 ·refine(Oc b w h.cell0 h.shape h.frozen0).mono ?_;rintro e w' ⟨rfl,rfl⟩;exact⟨rfl,h.used _,(aG B w).setCell (p:=⟨b,0,none⟩) h.1 _,(Lib.OthersKept.refl _ _ w).setCell ⟨b,0,none⟩ rfl _⟩
 ·refine(TW b w h.cell0).mono ?_;rintro e w' ⟨rfl,rfl⟩;exact⟨rfl,h,zS.refl _ _ _⟩
theorem Le:(prog.info? 5).map (fun i=>(i.zero,i.size,i.bytes))=some (some (.int .u8 0),1,1):=by kernel_rfl
theorem Lf {w:ag}{B:Nat}{e:TypeId}{v:ah}{n:Nat}{xs:List ah}(h:w.ownsRowF B e 1 v n xs):∃ao n' cap,v=.slice ao n' cap:=by
 rcases h.2 with⟨hv,_⟩|⟨g,cap,cur,fz,hv,_⟩
 ·exact⟨_,_,_,hv⟩
 ·exact⟨_,_,_,hv⟩
theorem aI {w:ag}{b:Nat}{o:Obj}(h:w.heap[b]? =some o):b<w.heap.size:=(cZ.1 h).1
theorem dN (B b:Nat)(l s:Bs)(w:ag)(h:Bd B b l w)(hl:l.length+s.length<=1000000000)(hB:B<=w.heap.size):
  au 60 #[ay b,.string ⟨s.toArray⟩] w fun e w'=>e=.returned (.tuple #[aa s.length,.nilIface])/\Bd B b (l++s) w'/\zS B b w w':=by
 obtain⟨i0,hi,hz0,hz1,hz2⟩:=info_parts Le;have hsz:=fU s;have hbl:(Lib.byteCells l).length=l.length:=by simp[Lib.byteCells]
 have HK:=Ld B b l w h;go_enter func60,ntmps60;go_wp2_with(first|(at_builtin;refine Lib.wpList_append_own_stringF _ rfl _ _ 73 9 rfl B 5 i0 underlying73 underlying9 hi hz0 hz1 hz2 _ _ _ rfl hown ⟨s.toArray⟩ rfl (by rw[hbl,hsz,bq];omega) (by rw[hbl,hsz];omega) (by omega) ?_;intro v' w2 hown' hgrow _;have hb2:w2.heap[b]? =some (.cells #[ay b,v] 75 (0,0)):=(by rw[hgrow.block b (aI hbk) (fun e=>hne e.symm)];exact hbk);have d1:w2.cell? (ak b 1)=some v:=(by rw[Lib.cell_of_heap hb2];rfl);have f1:w2.frozen? ⟨b,1,none⟩=false:=Lib.frozen_of_heap hb2 1;obtain⟨ao,n',cap,rfl⟩:∃ao n' cap,v'=.slice ao n' cap:=Lf hown')|(go_at_call 63;refine HK.mono ?_;rintro e w1 ⟨rfl,⟨hB1,v,hbk,hown,hne⟩,hk1⟩;have c1:w1.cell? (ak b 1)=some v:=(by rw[Lib.cell_of_heap hbk];rfl);have z1:=hk1.low.size))
 go_ret2
 have ho2:w2.ownsRowF B 5 1 (.slice ao n' cap) (Lib.byteCells (l++s)).length (Lib.byteCells (l++s)):=by
  have e1:Lib.byteCells (l++s)=Lib.byteCells l++Lib.strCells ⟨s.toArray⟩:=by rw[Lib.byteCells_append];rfl
  rw[e1,List.length_append,Lib.strCells_length];exact hown'
 refine⟨rfl,.inr (Lib.BuilderAtF.put (T:=75) (e:=5) hB1 hb2 ho2 (by decide)),hk1.trans ⟨?_,?_⟩⟩
 ·exact((aG B w1).grown hgrow (by omega) (fun k hk=>(hown.lt k hk).1)).setCell (p:=⟨b,1,none⟩) hB1 _
 ·exact((Lib.OthersKept.refl _ _ w1).grown hgrow (Lib.ownsRowF_kind hown)).setCell ⟨b,1,none⟩ rfl _
theorem one_cell (w:ag)(x:ah)(t:TypeId):∀j u,[x][j]? =some u->(w.alloc (.cells #[x] t)).cell? ((⟨w.heap.size,0,none⟩:Addr).add j)=some u:=by
 intro j u h
 match j,h with
 |0,h=>simp at h;subst h;exact iJ w #[x] t 0 x rfl
theorem uw (B b:Nat)(l:Bs)(c:UInt8)(w:ag)(h:Bd B b l w)(hl:l.length+1<=1000000000)(hB:B<=w.heap.size):
  au 31 #[ay b,.int .u8 c.toNat] w fun e w'=>e=.returned .nilIface/\Bd B b (l++[c]) w'/\zS B b w w':=by
 obtain⟨i0,hi,hz0,hz1,hz2⟩:=info_parts Le;have hbl:(Lib.byteCells l).length=l.length:=by simp[Lib.byteCells]
 have HK:=Ld B b l w h;go_enter func31,ntmps31;go_wp2_with(first|(at_builtin;refine wpList_append_ownF _ rfl _ _ 73 rfl B 5 i0 (.int .u8 0) 1 1 underlying73 hi hz0 hz1 hz2 rfl (by decide) _ _ _ rfl (hown.alloc _) ⟨w1.heap.size,0,none⟩ 1 1 [.int .u8 c.toNat] rfl rfl (one_cell w1 _ _) (fun u hu=>by simp at hu;subst hu;rfl) (by rw[hbl,bq];omega) (by rw[hbl];omega) (by simp;omega) ?_;intro v' w2 hown' hgrow _;have hb2:w2.heap[b]? =some (.cells #[ay b,v] 75 (0,0)):=(by rw[hgrow.block b (by have:=aI hbk;simp;omega) (fun e=>hne e.symm),Lib.alloc_old w1 _ b (aI hbk)];exact hbk);have d1:w2.cell? (ak b 1)=some v:=(by rw[Lib.cell_of_heap hb2];rfl);have f1:w2.frozen? ⟨b,1,none⟩=false:=Lib.frozen_of_heap hb2 1;obtain⟨ao,n',cap,rfl⟩:∃ao n' cap,v'=.slice ao n' cap:=Lf hown')|(go_at_call 63;refine HK.mono ?_;rintro e w1 ⟨rfl,⟨hB1,v,hbk,hown,hne⟩,hk1⟩;have c1:w1.cell? (ak b 1)=some v:=(by rw[Lib.cell_of_heap hbk];rfl);have z1:=hk1.low.size));go_ret;have ho2:w2.ownsRowF B 5 1 (.slice ao n' cap) (Lib.byteCells (l++[c])).length (Lib.byteCells (l++[c])):=by
  have e1:Lib.byteCells (l++[c])=Lib.byteCells l++[.int .u8 c.toNat]:=by rw[Lib.byteCells_append];rfl
  rw[e1,List.length_append];exact hown'
 refine⟨rfl,.inr (Lib.BuilderAtF.put (T:=75) (e:=5) hB1 hb2 ho2 (by decide)),hk1.trans ⟨?_,?_⟩⟩
 ·exact(((aG B w1).alloc (by omega) _).grown hgrow (by simp;omega) (fun k hk=>(hown.lt k hk).1)).setCell (p:=⟨b,1,none⟩) hB1 _
 ·exact(((Lib.OthersKept.refl _ _ w1).alloc _).grown hgrow (Lib.ownsRowF_kind (hown.alloc _))).setCell ⟨b,1,none⟩ rfl _
end
section
open Go.RowKit
set_option maxRecDepth 20000
def wl (c:UInt8):Bs:=if c=60 then[38,108,116,59] else if c=62 then[38,103,116,59] else if c=38 then[38,97,109,112,59] else if c=34 then[38,113,117,111,116,59] else[]
theorem Ca (c:UInt8):FT c=⟨(wl c).toArray⟩:=by
 unfold FT wl
 repeat' split
 all_goals rfl
theorem QI (c:UInt8):SY c=if wl c=[] then[c] else wl c:=by
 unfold SY wl
 repeat' split
 all_goals first|rfl|simp_all
theorem a5x (c:UInt8):(wl c).length<=6:=by
 unfold wl
 repeat' split
 all_goals decide
theorem XD (c:UInt8):(SY c).length<=6:=by
 unfold SY
 repeat' split
 all_goals(simp)
theorem zq:∀(a b:Bs),kP (a++b)=kP a++kP b
 |[],b=>rfl
 |c::a,b=>by simp[kP,zq a b]
theorem Cb:∀v:Bs,(kP v).length<=6*v.length
 |[]=>by simp[kP]
 |c::v=>by have:=XD c;have:=Cb v;simp[kP];omega
theorem TZ (s:aC)(k:Nat)(h:k<s.size):s.data.toList.take (k+1)=s.data.toList.take k++[s[k]]:=by
 rw[List.take_add_one,dK (by rw[zl];exact h),Lc s k h];rfl
theorem Lg (s:aC)(k:Nat)(h:k<s.size):kP (s.data.toList.take (k+1))=kP (s.data.toList.take k)++SY s[k]:=by
 rw[TZ s k h,zq];simp[kP]
theorem XE (s:aC)(k:Nat)(h:k<=s.size):(kP (s.data.toList.take k)).length<=6*s.size:=by
 have:=Cb (s.data.toList.take k);rw[List.length_take,zl] at this;omega
theorem Cc (B b:Nat)(l:Bs)(s:aC)(W:ag)(h:Bd B b l W)(hl:l.length<=100000000)(hs:s.size<=1000)(hB:B<=W.heap.size):
  au 61 #[ay b,.string s] W fun e w'=>e=.returned (.tuple #[])/\Bd B b (l++kP s.data.toList) w'/\zS B b W w':=by
 have hs':(s.size:Int)<=1000:=by omega
 have HB0:=aj h;clear h;go_enter func61,ntmps61;go_wp2_with fail
 go_loopw [4] (fun y wr=>∃k:Nat,k<=s.size/\y=aa k/\Bd B b (l++kP (s.data.toList.take k)) wr/\zS B b W wr) (fun y _=>s.size-(intOf y).toNat)
 case atStart=>exact⟨0,aP _,rfl,by simpa[kP] using HB0.out,zS.refl _ _ _⟩
 case round=>
  obtain⟨k,hk,rfl,hbd,hkp⟩:=hrel;have HBd:=aj hbd;clear hbd;have hBr:B<=wr.heap.size:=aJ hB hkp.low.size;by_cases hlt:k<s.size
  ·have hlt':(k:Int)<(s.size:Int):=by omega
   have hc:=Aa s[k];have HW:=mF s[k];have hlen:(l++kP (s.data.toList.take k)).length<=100006000:=by have:=XE s k hk;rw[List.length_append];omega
   by_cases hw:wl s[k]=[]
   ·have e0:FT s[k]=⟨#[]⟩:=by rw[Ca,hw]
    rw[e0] at HW;have HWB:=uw B b _ s[k] wr HBd.out (by omega) hBr;have hes:Hid (kP (s.data.toList.take (k+1))=kP (s.data.toList.take k)++[s[k]]):=(by rw[Lg s k hlt,QI,if_pos hw]:kP (s.data.toList.take (k+1))=kP (s.data.toList.take k)++[s[k]]);clear e0 hw;go_wp2_with(first|(go_at_call 113;refine(HW _).mono ?_;rintro e w1 ⟨rfl,rfl⟩)|(go_at_call 31;refine HWB.mono ?_;rintro e w2 ⟨rfl,Ce,hk2⟩))
    go_roundw
    case rel=>exact⟨k+1,by omega,by go_num,by rw[hes.out,<- List.append_assoc];exact Ce,hkp.trans hk2⟩
    case measure=>simp[intOf];omega
   ·have e0:FT s[k]=⟨(wl s[k]).toArray⟩:=Ca _;rw[e0] at HW;have hwl:=a5x s[k];have HWS:=dN B b _ (wl s[k]) wr HBd.out (by omega) hBr;have hes:Hid (kP (s.data.toList.take (k+1))=kP (s.data.toList.take k)++wl s[k]):=(by rw[Lg s k hlt,QI,if_neg hw]:kP (s.data.toList.take (k+1))=kP (s.data.toList.take k)++wl s[k]);have h1:(wl s[k]).isEmpty=false:=by rw[List.isEmpty_eq_false_iff];exact hw
    have h2:(wl s[k]==[])=false:=by rw[beq_eq_false_iff_ne];exact hw
    clear e0;generalize wl s[k]=wd at*;go_wp2_with(first|(go_at_call 113;refine(HW _).mono ?_;rintro e w1 ⟨rfl,rfl⟩)|(go_at_call 60;refine HWS.mono ?_;rintro e w2 ⟨rfl,Ce,hk2⟩))
    go_roundw
    case rel=>exact⟨k+1,by omega,by go_num,by rw[hes.out,<- List.append_assoc];exact Ce,hkp.trans hk2⟩
    case measure=>simp[intOf];omega
  ·obtain rfl:k=s.size:=by omega
   have he:Hid (s.data.toList.take s.size=s.data.toList):=(by rw[<- zl,List.take_length]:s.data.toList.take s.size=s.data.toList);go_wp2_with fail
   go_end0
   exact⟨rfl,by have:=HBd.out;rwa[he.out] at this,hkp⟩
mutual
def okN:Nd->Prop
 | .mk nm ats ks=>gG nm=true/\(∀a∈ats,gG a.1=true/\isVal a.2=true)/\okL ks
def okL:List Nd->Prop
 |[]=>True
 |k::l=>okN k/\okL l
end
theorem QJ:∀{l:List Nd} {k:Nd},okL l->k∈l->okN k
 |[],_,_,h=>by simp at h
 |a::l,k,h,hk=>by
  unfold okL at h;rcases List.mem_cons.1 hk with rfl|hk
  ·exact h.1
  ·exact QJ h.2 hk
theorem XF:∀(ats pre:List (Bs×Bs)),Ea pre ats=0->∀a∈ats,gG a.1=true/\isVal a.2=true
 |[],_,_,a,ha=>by simp at ha
 |x::r,pre,h,a,ha=>by
  unfold Ea at h;split at h
  ·rename_i h0;rcases List.mem_cons.1 ha with rfl|ha
   ·unfold QG at h0;split at h0
    ·rename_i h1;split at h0
     ·cases h0
     ·split at h0
      ·rename_i h3;exact⟨h1,h3⟩
      ·cases h0
    ·cases h0
   ·exact XF r _ h a ha
  ·rename_i h0;exact(h0 h).elim
theorem Cf {nm:Bs}{ats:List (Bs×Bs)}{deep ahead:Nat}(h:ck1 nm ats deep ahead=0):gG nm=true/\ats.length<=12/\∀a∈ats,gG a.1=true/\isVal a.2=true:=by
 unfold ck1 at h;split at h
 ·cases h
 ·split at h
  ·cases h
  ·split at h
   ·rename_i hn;split at h
    ·cases h
    ·exact⟨hn,by omega,XF ats [] h⟩
   ·cases h
mutual
theorem XG:∀(n:Nd) (deep ahead:Nat),(ig n deep ahead).1=0->okN n
 | .mk nm ats ks,deep,ahead,h=>by
  unfold ig at h;split at h
  ·rename_i h1;unfold okN;exact⟨(Cf h1).1,(Cf h1).2.2,XH ks _ _ h⟩
  ·rename_i h1;exact(h1 h).elim
theorem XH:∀(l:List Nd) (deep ahead:Nat),(sH l deep ahead).1=0->okL l
 |[],_,_,_=>by unfold okL;trivial
 |k::l,deep,ahead,h=>by
  unfold sH at h;split at h
  ·rename_i h1;unfold okL;exact⟨XG k _ _ h1,XH l _ _ h⟩
  ·rename_i h1;exact(h1 h).elim
end
theorem Bd.al {B b:Nat}{l:Bs}{w:ag}(h:Bd B b l w)(o:Obj):Bd B b l (w.alloc o):=Lib.IsBuilderF.alloc h o
theorem Bd.lt {B b:Nat}{l:Bs}{w:ag}(h:Bd B b l w):B<=b/\b<w.heap.size:=by
 rcases h with⟨h1,v,h2,_⟩|⟨h1,v,h2,_⟩
 ·exact⟨h1,aI h2⟩
 ·exact⟨h1,aI h2⟩
theorem zS.al {B b:Nat}(w:ag)(o:Obj)(hB:B<=w.heap.size):zS B b w (w.alloc o):=⟨(aG B w).alloc hB o,(Lib.OthersKept.refl _ _ w).alloc o⟩
theorem zS.box {B b:Nat}{w w':ag}(h:zS B b w w'){N:Nat}{cs:Array ah}{t:TypeId}(hN:w.heap[N]? =some (.cells cs t))(hne:N≠b)(ht:t≠5):w'.heap[N]? =some (.cells cs t):=
 h.oth N _ hN (fun e=>hne (dP e)) (fun c fz e=>by cases e;exact ht rfl)
theorem dw (w:ag)(cs:Array ah)(t:TypeId):(w.alloc (.cells cs t)).heap[w.heap.size]? =some (.cells cs t):=by show(w.heap.push (.cells cs t))[w.heap.size]? =_;simp
theorem aD {w:ag}{N:Nat}{cs:Array ah}{t:TypeId}(h:w.heap[N]? =some (.cells cs t))(i:Nat)(v:ah)(hv:cs[i]? =some v):w.cell? (ak N i)=some v:=by
 unfold World.cell?;simp only[h];simpa using hv
theorem Ht (a c:Bs):(⟨a.toArray⟩++⟨c.toArray⟩:aC)=⟨(a++c).toArray⟩:=by
 apply ByteArray.ext;simp[ByteArray.data_append]
theorem jg {s:Bs}(h:gG s=true):s.length<=12:=by
 cases s with
 |nil=>simp
 |cons c r=>simp only[gG,Bool.and_eq_true,decide_eq_true_eq] at h;exact h.1.1
theorem lS {s:Bs}(h:isVal s=true):s.length<=200:=by
 simp only[isVal,Bool.and_eq_true,decide_eq_true_eq] at h;exact h.1
theorem rA:∀a c:List (Bs×Bs),iE (a++c)=iE a++iE c
 |[],_=>rfl
 |x::a,c=>by simp[iE,rA a c]
theorem FU {ats:List (Bs×Bs)}{k:Nat}{x:Bs×Bs}(hx:ats[k]? =some x):iE (ats.take (k+1))=iE (ats.take k)++atT x:=by
 rw[List.take_add_one,hx,rA];simp[iE]
theorem a1q (ats:List (Bs×Bs))(k:Nat):(iE (ats.take k)).length<=(iE ats).length:=by
 have:=congrArg List.length (rA (ats.take k) (ats.drop k));rw[List.take_append_drop,List.length_append] at this;omega
theorem rC:∀a c:List Nd,jw (a++c)=jw a++jw c
 |[],_=>by simp[jw]
 |x::a,c=>by simp[jw,rC a c]
theorem FV {ks:List Nd}{k:Nat}{x:Nd}(hx:ks[k]? =some x):jw (ks.take (k+1))=jw (ks.take k)++txt x:=by
 rw[List.take_add_one,hx,rC];simp[jw]
theorem a1r (ks:List Nd)(k:Nat):(jw (ks.take k)).length<=(jw ks).length:=by
 have:=congrArg List.length (rC (ks.take k) (ks.drop k));rw[List.take_append_drop,List.length_append] at this;omega
theorem a1s (nm:Bs)(ats:List (Bs×Bs))(ks:List Nd):1+nm.length+(iE ats).length+(jw ks).length<=(txt (.mk nm ats ks)).length:=by
 cases ks with
 |nil=>rw[GL];simp[jw];omega
 |cons k r=>rw[Bj];simp;omega
def Wr (W0:ag)(b:Nat)(n:Nd):Prop:=∀(c0 c1 c2:ah) (l:Bs) (W:ag),nG W0 c0 c1 c2 n->okN n->Below W0.heap.size W0 W->Bd W0.heap.size b l W->l.length+(txt n).length<=100000000->
 au 26 #[ay b,.agg #[c0,c1,c2]] W fun e w'=>e=.returned (.tuple #[])/\Bd W0.heap.size b (l++txt n) w'/\zS W0.heap.size b W w'
theorem Ep (W0:ag)(b:Nat):∀n,Wr W0 b n:=by
 refine Nd.ind fun nm ats ks ih=>?_;intro c0 c1 c2 l W hn hok hb hbd hlen;unfold nG at hn;obtain⟨rfl,hl,⟨o1,fo,rfl,h1c,h1m,h10,h14⟩,ok,eT,rfl,hkc,hkm,hk0,hks⟩:=hn;unfold okN at hok;obtain⟨hnm,Hu,hkk⟩:=hok;have hB:=hb.size;have hbl:=hbd.lt;have hx0:=dw W #[.string ⟨nm.toArray⟩,.slice o1 ats.length fo,.slice ok ks.length eT] 36;have n0:=aD hx0 0 (.string ⟨nm.toArray⟩) rfl;have k0:=zS.al (B:=W0.heap.size) (b:=b) W (.cells #[.string ⟨nm.toArray⟩,.slice o1 ats.length fo,.slice ok ks.length eT] 36) hB;have a9m:=hbd.al (.cells #[.string ⟨nm.toArray⟩,.slice o1 ats.length fo,.slice ok ks.length eT] 36);have hnl:=jg hnm;have hs1:1+nm.length<=9223372036854775807:=by omega
 have htl:=a1s nm ats ks;have ako:(ats.length:Int)<=9223372036854775807:=by rw[bq] at h1m;omega
 have a9j:(ks.length:Int)<=9223372036854775807:=by rw[bq] at hkm;omega
 have hNb:W.heap.size≠b:=by omega
 have H14:=aj h14;have HKS:=aj hks;have IH:=aj ih;have adk:=aj Hu;have HKK:=aj hkk;clear h14 hks ih Hu hkk;unfold gT;go_enter func26,ntmps26;go_wp2_with(go_at_call 60;rw[Ht];refine(dN W0.heap.size b l ([60]++nm) _ a9m (by simp;omega) (aJ hB k0.low.size)).mono ?_;rintro e w1 ⟨rfl,Ce,hk2⟩;have hx1:=hk2.box hx0 hNb (by decide);have m1:=aD hx1 1 (.slice o1 ats.length fo) rfl);obtain⟨V0,Jd⟩:∃V,W.alloc (.cells #[.string ⟨nm.toArray⟩,.slice o1 ats.length fo,.slice ok ks.length eT] 36)=V:=⟨_,rfl⟩;rw[Jd] at k0 hk2 hx0;clear n0 a9m Jd m1;have K1:=k0.trans hk2;have HB2:=aj Ce;clear Ce
 go_loopw [16] (fun y wr=>∃k:Nat,k<=ats.length/\y=aa k/\Bd W0.heap.size b (l++([60]++nm)++iE (ats.take k)) wr/\zS W0.heap.size b w1 wr) (fun y _=>ats.length-(intOf y).toNat)
 case atStart=>exact⟨0,aP _,rfl,by simpa[iE] using HB2.out,zS.refl _ _ _⟩
 case round=>
  obtain⟨k,hk,rfl,a9n,hkk⟩:=hrel;have HBk:=aj a9n;clear a9n;have hBr:W0.heap.size<=wr.heap.size:=aJ (aJ hB K1.low.size) hkk.low.size;have bR:Below W0.heap.size W0 wr:=(hb.trans K1.low).trans hkk.low;have hx2:=hkk.box hx1 hNb (by decide);by_cases hlt:k<ats.length
  ·have hlt':(k:Int)<(ats.length:Int):=by omega
   obtain⟨x,hx, -⟩:=drop_at hlt;obtain⟨b',off',rfl,c0,c1, -, -⟩:=H14.out k x hx;obtain⟨hxn,hxv⟩:=adk.out x (fV hx);have akq:=jg hxn;have akr:=lS hxv;have hle:=a1q ats (k+1);rw[FU hx,List.length_append] at hle;have hat:(atT x).length=1+(x.1.length+(2+((kP x.2).length+1))):=by simp[atT];omega
   have HM:Hid (iE (ats.take (k+1))=iE (ats.take k)++atT x):=FU hx;have j0:=(bR.cell (az c0)).trans c0;have j1:=(bR.cell (az c1)).trans c1;unfold gT at j0 j1;clear c0 c1 hx hxn hxv;have y0:=dw wr #[.string ⟨x.1.toArray⟩,.string ⟨x.2.toArray⟩] 100;have u0:=aD y0 0 (.string ⟨x.1.toArray⟩) rfl;have kA:=zS.al (B:=W0.heap.size) (b:=b) wr (.cells #[.string ⟨x.1.toArray⟩,.string ⟨x.2.toArray⟩] 100) hBr;have a1t:=HBk.out.al (.cells #[.string ⟨x.1.toArray⟩,.string ⟨x.2.toArray⟩] 100);have hMb:wr.heap.size≠b:=by have:=HBk.out.lt;omega
   have hs2:1+x.1.length<=9223372036854775807:=by omega
   have hs3:1+x.1.length+2<=9223372036854775807:=by omega
   have hlP:(l++([60]++nm)++iE (ats.take k)).length=l.length+(1+nm.length)+(iE (ats.take k)).length:=by simp;omega
   have z0:=kA.low.size;go_wp2_with(first|(go_at_call 60;rw[Ht,Ht];refine(dN W0.heap.size b _ ([32]++x.1++[61,34]) _ a1t (by rw[hlP];simp;omega) (by omega)).mono ?_;rintro e w2 ⟨rfl,a5z,hk3⟩;have y1:=hk3.box y0 hMb (by decide);have u1:=aD y1 1 (.string ⟨x.2.toArray⟩) rfl;have z1:=hk3.low.size)|(go_at_call 61;refine(Cc W0.heap.size b _ ⟨x.2.toArray⟩ _ a5z (by rw[List.length_append,hlP];simp;omega) (by rw[fU];omega) (by omega)).mono ?_;rintro e w3 ⟨rfl,adm,hk4⟩;have z2:=hk4.low.size)|(go_at_call 60;refine(dN W0.heap.size b _ [34] _ adm (by rw[List.length_append,List.length_append,hlP];simp;omega) (by omega)).mono ?_;rintro e w4 ⟨rfl,adn,hk5⟩))
   go_roundw
   case rel=>exact⟨k+1,by omega,by go_num,by rw[HM.out];simpa[atT] using adn,(((hkk.trans kA).trans hk3).trans hk4).trans hk5⟩
   case measure=>simp[intOf];omega
  ·obtain rfl:k=ats.length:=by omega
   have HB3:Hid (Bd W0.heap.size b (l++([60]++nm)++iE ats) wr):=(by have:=HBk.out;rwa[List.take_length] at this:Bd W0.heap.size b (l++([60]++nm)++iE ats) wr);have m2:=aD hx2 2 (.slice ok ks.length eT) rfl;have hlP:(l++([60]++nm)++iE ats).length=l.length+(1+nm.length)+(iE ats).length:=by simp;omega
   by_cases hz:ks.length=0
   ·obtain rfl:ks=[]:=iC.1 hz;have HT:Hid (txt (.mk nm ats [])=([60]++nm)++iE ats++[47,62]):=(by rw[GL];simp:txt (.mk nm ats [])=([60]++nm)++iE ats++[47,62]);go_wp2_with(go_at_call 60;refine(dN W0.heap.size b _ [47,62] _ HB3.out (by rw[hlP];simp;omega) hBr).mono ?_;rintro e w2 ⟨rfl,a5z,hk3⟩);refine bodyPost_ret (v:=.tuple #[]) (by simp[results,results26,go_sem]) rfl ⟨rfl,?_,(K1.trans hkk).trans hk3⟩;rw[HT.out];simpa using a5z
   ·obtain⟨kf,kr,hkf⟩:∃kf kr,ks=kf::kr:=by
     cases ks with
     |nil=>simp at hz
     |cons kf kr=>exact⟨kf,kr,rfl⟩
    have HT:Hid (txt (.mk nm ats ks)=([60]++nm)++iE ats++[62]++jw ks++([60,47]++nm++[62])):=(by rw[hkf,Bj];simp:txt (.mk nm ats ks)=([60]++nm)++iE ats++[62]++jw ks++([60,47]++nm++[62]));have hTl:(txt (.mk nm ats ks)).length=1+nm.length+(iE ats).length+1+(jw ks).length+(2+nm.length+1):=by rw[HT.out];simp;omega
    clear hkf;have hz':¬(ks.length:Int)=0:=by omega
    go_wp2_with(go_at_call 60;refine(dN W0.heap.size b _ [62] _ HB3.out (by rw[hlP];simp;omega) hBr).mono ?_;rintro e w5 ⟨rfl,a9o,hk6⟩;have hx3:=hk6.box hx2 hNb (by decide);have p2:=aD hx3 2 (.slice ok ks.length eT) rfl);have K6:=(K1.trans hkk).trans hk6;have HB6:=aj a9o;clear a9o p2 m2
    go_loopw [44] (fun y wq=>∃q:Nat,q<=ks.length/\y=aa q/\Bd W0.heap.size b (l++([60]++nm)++iE ats++[62]++jw (ks.take q)) wq/\zS W0.heap.size b w5 wq) (fun y _=>ks.length-(intOf y).toNat)
    case atStart=>exact⟨0,aP _,rfl,by simpa[jw] using HB6.out,zS.refl _ _ _⟩
    case round=>
     obtain⟨q,hq,rfl,a9p,hkq⟩:=hrel;have HBq:=aj a9p;clear a9p;have hBq:W0.heap.size<=wr.heap.size:=aJ (aJ hB K6.low.size) hkq.low.size;have bQ:Below W0.heap.size W0 wr:=(hb.trans K6.low).trans hkq.low;have hx4:=hkq.box hx3 hNb (by decide);have hlQ:(l++([60]++nm)++iE ats++[62]++jw (ks.take q)).length=l.length+(1+nm.length)+(iE ats).length+1+(jw (ks.take q)).length:=by simp;omega
     by_cases hlq:q<ks.length
     ·have adp:(q:Int)<(ks.length:Int):=by omega
      obtain⟨kid,hx, -⟩:=drop_at hlq;obtain⟨b',off',d0,d1,d2,rfl,e0,e1,e2,nZ⟩:=HKS.out.get hx;rw[Nat.zero_add] at e0 e1 e2;have hmem:kid∈ks:=fV hx;have hle:=a1r ks (q+1);rw[FV hx,List.length_append] at hle;have HM:Hid (jw (ks.take (q+1))=jw (ks.take q)++txt kid):=FV hx;have HI:=IH.out kid hmem;have hok:=QJ HKK.out hmem;have zo:=nZ;obtain⟨vQ,jF,ks'⟩:=kid;unfold nG at zo;obtain⟨rfl, -,⟨o',cap',rfl, -⟩,ok',gK,rfl, -⟩:=zo;have j0:=(bQ.cell (az e0)).trans e0;have j1:=(bQ.cell (az e1)).trans e1;have j2:=(bQ.cell (az e2)).trans e2;unfold gT at j0 j1 j2 nZ;clear e0 e1 e2 hmem hx;have y0:=dw wr #[.string ⟨vQ.toArray⟩,.slice o' jF.length cap',.slice ok' ks'.length gK] 36;have u0:=aD y0 0 (.string ⟨vQ.toArray⟩) rfl;have u1:=aD y0 1 (.slice o' jF.length cap') rfl;have u2:=aD y0 2 (.slice ok' ks'.length gK) rfl;have kA:=zS.al (B:=W0.heap.size) (b:=b) wr (.cells #[.string ⟨vQ.toArray⟩,.slice o' jF.length cap',.slice ok' ks'.length gK] 36) hBq;have a1t:=HBq.out.al (.cells #[.string ⟨vQ.toArray⟩,.slice o' jF.length cap',.slice ok' ks'.length gK] 36);have HC:=HI _ _ _ _ _ nZ hok (bQ.trans kA.low) a1t (by rw[hlQ];omega);clear HI hok nZ a1t y0;go_wp2_with(go_at_call 26;refine HC.mono ?_;rintro e w7 ⟨rfl,adq,hk7⟩)
      go_roundw
      case rel=>exact⟨q+1,by omega,by go_num,by rw[HM.out,<- List.append_assoc];exact adq,(hkq.trans kA).trans hk7⟩
      case measure=>simp[intOf];omega
     ·obtain rfl:q=ks.length:=by omega
      have HB8:Hid (Bd W0.heap.size b (l++([60]++nm)++iE ats++[62]++jw ks) wr):=(by have:=HBq.out;rwa[List.take_length] at this:Bd W0.heap.size b (l++([60]++nm)++iE ats++[62]++jw ks) wr);have m0:=aD hx4 0 (.string ⟨nm.toArray⟩) rfl;have hs4:2+nm.length<=9223372036854775807:=by omega
      have hs5:2+nm.length+1<=9223372036854775807:=by omega
      rw[List.take_length] at hlQ;go_wp2_with(go_at_call 60;rw[Ht,Ht];refine(dN W0.heap.size b _ ([60,47]++nm++[62]) _ HB8.out (by rw[hlQ];simp;omega) hBq).mono ?_;rintro e w8 ⟨rfl,adr,hk8⟩)
      go_end0
      refine⟨rfl,?_,(K6.trans hkq).trans hk8⟩;rw[HT.out];simpa using adr
theorem a1u {a:Bs×Bs}(h1:gG a.1=true)(h2:isVal a.2=true):(atT a).length<=1216:=by
 have:=jg h1;have:=lS h2;have:=Cb a.2;simp[atT];omega
theorem Lh:∀(l:List (Bs×Bs)),(∀a∈l,gG a.1=true/\isVal a.2=true)->(iE l).length<=1216*l.length
 |[],_=>by simp[iE]
 |a::l,h=>by
  have h1:=a1u (h a (by simp)).1 (h a (by simp)).2;have h2:=Lh l (fun b hb=>h b (by simp[hb]));simp[iE];omega
mutual
theorem QK:∀(n:Nd) (deep ahead:Nat),(ig n deep ahead).1=0->(txt n).length+20000*ahead<=20000*(ig n deep ahead).2
 | .mk nm ats ks,deep,ahead,h=>by
  have hz:ck1 nm ats deep ahead=0:=by
   unfold ig at h;split at h
   ·assumption
   ·rename_i h1;exact(h1 h).elim
  rw[C8 hz] at h⊢;obtain⟨h1,h2,h3⟩:=Cf hz;have l1:=jg h1;have l2:=Lh ats h3;have l3:=QL ks _ _ h;cases ks with
  |nil=>rw[GL];simp[jw] at l3⊢;omega
  |cons k r=>rw[Bj];simp at l3⊢;omega
theorem QL:∀(l:List Nd) (deep ahead:Nat),(sH l deep ahead).1=0->(jw l).length+20000*ahead<=20000*(sH l deep ahead).2
 |[],deep,ahead,_=>by simp[jw,sH]
 |k::l,deep,ahead,h=>by
  have hz:(ig k deep ahead).1=0:=by
   unfold sH at h;split at h
   ·assumption
   ·rename_i h1;exact(h1 h).elim
  rw[nV hz] at h⊢;have l1:=QK k _ _ hz;have l2:=QL l _ _ h;simp[jw];omega
end
theorem Bd.fresh (B:Nat)(w:ag)(hB:B<=w.heap.size):Bd B w.heap.size [] (w.alloc (.cells #[.pointer none,.slice none 0 0] 75)):=
 .inl ⟨hB,.slice none 0 0,dw w _ _,World.ownsRowF_of (eH _ _ _ _),by simp[Value.ownBlock]⟩
theorem zu {B:Nat}{w:ag}:∀(k:Nat) {v:ag},Below B w v->Below B w (v.drewN k):=fun _ _ h=>⟨h.os,h.tape,h.output,h.size,h.block⟩
def a3U (E:Nat->Addr)(B:Nat)(n:Nd)(e:Ending)(w:ag):Prop:=
 ((ig n 1 0).1≠0/\∃pb,B<=pb/\e=.returned (.tuple #[.string ⟨#[]⟩,.iface 90 (ay pb)])/\w.cell? (ak pb 0)=some (aa (ig n 1 0).2)/\w.cell? (ak pb 1)=some (.iface 401 (.pointer (some (E (ig n 1 0).1)))))\/
 ((ig n 1 0).1=0/\10000<(txt n).length/\e=.returned (.tuple #[.string ⟨#[]⟩,.iface 401 (.pointer (some (E 2)))]))\/
 ((ig n 1 0).1=0/\(txt n).length<=10000/\e=.returned (.tuple #[.string ⟨(txt n).toArray⟩,.nilIface]))
theorem Hw (E:Nat->Addr)(n:Nd)(c0 c1 c2:ah)(W:ag)(hE:ME E W)(hn:nG W c0 c1 c2 n):
  au 13 #[.agg #[c0,c1,c2]] W fun e w'=>Below W.heap.size W w'/\a3U E W.heap.size n e w':=by
 have hn':=hn;obtain⟨nm,ats,ks⟩:=n;unfold nG at hn';obtain⟨rfl, -,⟨o1,fo,rfl, -⟩,ok,eT,rfl, -⟩:=hn';generalize hN:Nd.mk nm ats ks=n at hn⊢;clear hN;unfold gT at*;have b1:=bT W (.cells #[.string ⟨nm.toArray⟩,.slice o1 ats.length fo,.slice ok ks.length eT] 36);have n0:=iJ W #[.string ⟨nm.toArray⟩,.slice o1 ats.length fo,.slice ok ks.length eT] 36 0 (.string ⟨nm.toArray⟩) rfl;have n1:=iJ W #[.string ⟨nm.toArray⟩,.slice o1 ats.length fo,.slice ok ks.length eT] 36 1 (.slice o1 ats.length fo) rfl;have n2:=iJ W #[.string ⟨nm.toArray⟩,.slice o1 ats.length fo,.slice ok ks.length eT] 36 2 (.slice ok ks.length eT) rfl;have HC:=C9 E n _ _ _ _ (hE.below b1).ce (nG.below b1 n hn);unfold a3U;by_cases hz:(ig n 1 0).1=0
 ·have HC0:=HC.mono (R':=fun e w'=>e=.returned .nilIface/\Below (W.alloc (.cells #[.string ⟨nm.toArray⟩,.slice o1 ats.length fo,.slice ok ks.length eT] 36)).heap.size (W.alloc (.cells #[.string ⟨nm.toArray⟩,.slice o1 ats.length fo,.slice ok ks.length eT] 36)) w') (fun e w' h=>by
   rcases h.2 with h2|h2
   ·exact⟨h2.2,h.1⟩
   ·exact(h2.1 hz).elim)
  have hok:=XG n 1 0 hz;have hlen:(txt n).length<=2000000:=by have:=QK n 1 0 hz;have:=Hr n 1 0 hz;omega
  have HZ:=aj hz;clear HC hz;have WR:=fun b=>Ep W b n;unfold Wr at WR;by_cases hbig:10000<(txt n).length
  ·have hbig':10000<((txt n).length:Int):=by omega
   go_enter func13,ntmps13;go_upto_region 7 with(first|(go_at_call 18;refine HC0.mono ?_;rintro e w1 ⟨rfl,hb1⟩;have m0:=bK (.cells #[.pointer none,.slice none 0 0] 75) ((hb1.cell (az n0)).trans n0);have m1:=bK (.cells #[.pointer none,.slice none 0 0] 75) ((hb1.cell (az n1)).trans n1);have m2:=bK (.cells #[.pointer none,.slice none 0 0] 75) ((hb1.cell (az n2)).trans n2);have bw:=aH b1 hb1)|(go_at_call 26;refine(WR _ _ _ _ [] _ hn hok (bw.trans ((bT w1 _).mono bw.size)) (Bd.fresh _ w1 bw.size) (by simp;omega)).mono ?_;rintro e w2 ⟨rfl,Ce,hk2⟩;have Jb:=(bw.trans ((bT w1 _).mono bw.size)).trans hk2.low)|(go_at_call 27;refine(Tryz.Builder_Len_f W.heap.size _ _ _ Ce).mono ?_;rintro e w3 ⟨rfl,rfl⟩;rw[Lib.byteCells_length];simp only[List.nil_append]));have e2:=(hE.below Jb).c2
   go_quiet (fail)
   go_wp2_with fail
   go_ret2
   exact⟨zu _ Jb,.inr (.inl ⟨HZ.out,hbig,rfl⟩)⟩
  ·have hbig':((txt n).length:Int)<=10000:=by omega
   go_enter func13,ntmps13;go_wp2_with(first|(go_at_call 18;refine HC0.mono ?_;rintro e w1 ⟨rfl,hb1⟩;have m0:=bK (.cells #[.pointer none,.slice none 0 0] 75) ((hb1.cell (az n0)).trans n0);have m1:=bK (.cells #[.pointer none,.slice none 0 0] 75) ((hb1.cell (az n1)).trans n1);have m2:=bK (.cells #[.pointer none,.slice none 0 0] 75) ((hb1.cell (az n2)).trans n2);have bw:=aH b1 hb1)|(go_at_call 26;refine(WR _ _ _ _ [] _ hn hok (bw.trans ((bT w1 _).mono bw.size)) (Bd.fresh _ w1 bw.size) (by simp;omega)).mono ?_;rintro e w2 ⟨rfl,Ce,hk2⟩;have Jb:=(bw.trans ((bT w1 _).mono bw.size)).trans hk2.low)|(go_at_call 27;refine(Tryz.Builder_Len_f W.heap.size _ _ _ Ce).mono ?_;rintro e w3 ⟨rfl,rfl⟩;rw[Lib.byteCells_length];simp only[List.nil_append])|(go_at_call 28;refine(Tryz.Builder_String_any_k W.heap.size _ _ _ Ce Jb.size).mono ?_;rintro e w4 ⟨rfl, -,hb4, -⟩;simp only[List.nil_append]))
   go_ret2
   exact⟨Jb.trans hb4,.inr (.inr ⟨HZ.out,by omega,rfl⟩)⟩
 ·have HCn:=HC.mono (R':=fun e w'=>Below (W.alloc (.cells #[.string ⟨nm.toArray⟩,.slice o1 ats.length fo,.slice ok ks.length eT] 36)).heap.size (W.alloc (.cells #[.string ⟨nm.toArray⟩,.slice o1 ats.length fo,.slice ok ks.length eT] 36)) w'/\Flt E (W.alloc (.cells #[.string ⟨nm.toArray⟩,.slice o1 ats.length fo,.slice ok ks.length eT] 36)).heap.size (ig n 1 0) e w') (fun e w' h=>by
   rcases h.2 with h2|h2
   ·exact(hz h2.1).elim
   ·exact⟨h.1,h2.2⟩)
  have HZ:=aj hz;clear HC hz;go_enter func13,ntmps13;go_wp2_with(go_at_call 18;refine HCn.mono ?_;rintro e w1 ⟨hb1,pb,hpb,rfl,z0,z1⟩)
  go_ret2
  exact⟨aH b1 hb1,.inl ⟨HZ.out,pb,aJ b1.size hpb,rfl,z0,z1⟩⟩
end
section
open Go.RowKit
theorem aM {w:ag}{B:Nat}{e:TypeId}{k:Nat}{v:ah}{n:Nat}{xs:List ah}(h:w.ownsRow B e k v n xs):∃o cap,v=.slice o n cap:=by
 rcases h.2 with⟨hv,hn⟩|⟨g,cap,cur,hv,_⟩
 ·exact⟨_,_,by rw[hv,hn]⟩
 ·exact⟨_,_,hv⟩
def bJ:List (Bs×Bs)->List ah
 |[]=>[]
 |x::r=>[.string ⟨x.1.toArray⟩,.string ⟨x.2.toArray⟩]++bJ r
theorem uy:∀a c:List (Bs×Bs),bJ (a++c)=bJ a++bJ c
 |[],_=>rfl
 |x::a,c=>by simp[bJ,uy a c]
theorem zw (a:List (Bs×Bs))(x:Bs×Bs):bJ (a++[x])=bJ a++[.string ⟨x.1.toArray⟩,.string ⟨x.2.toArray⟩]:=by rw[uy];simp[bJ]
theorem vo:∀(M:List (Bs×Bs)) (i:Nat) (x:Bs×Bs),M[i]? =some x->(bJ M)[i*2]? =some (gT x.1)/\(bJ M)[i*2+1]? =some (gT x.2)
 |[],i,x,h=>by simp at h
 |y::r,0,x,h=>by
  simp at h;subst h;exact⟨rfl,rfl⟩
 |y::r,i+1,x,h=>by
  have:=vo r i x (by simpa using h);rw[show(i+1)*2=i*2+1+1 from by omega,show i*2+1+1+1=(i*2+1)+1+1 from rfl];simp only[bJ,List.cons_append,List.nil_append,List.getElem?_cons_succ];exact this
theorem dF {w:ag}{B k:Nat}{e:TypeId}{v:ah}{n:Nat}{xs:List ah}(h:w.ownsRow B e k v n xs)(j:Nat)(u:ah)(hj:xs[j]? =some u):∃g,v.ownBlock=some g/\w.cell? (ak g j)=some u:=by
 obtain⟨h1,h2⟩:=h;rcases h2 with⟨_,h2⟩|⟨g,cap,cur,h3,h4,h5,h6,h7,h8,h9⟩
 ·subst h2;have hx:xs=[]:=List.eq_nil_of_length_eq_zero (by simpa using h1);rw[hx] at hj;simp at hj
 ·refine⟨g,by rw[h3];rfl,?_⟩;rw[<- h9,List.getElem?_take] at hj;split at hj
  ·unfold World.cell?;rw[h5];simpa using hj
  ·cases hj
theorem dL {w:ag}{B k:Nat}{e:TypeId}{v:ah}{n:Nat}{xs:List ah}(h:w.ownsRow B e k v n xs):∃o cap,v=.slice o n cap/\n<=cap/\cap<=maxLen/\(o=none->cap=0)/\∀g,v.ownBlock=some g->o=some ⟨g,0,none⟩:=by
 rcases h.2 with⟨h1,h2⟩|⟨g,cap,cur,h3,h4,h5,h6,h7,h8,h9⟩
 ·exact⟨none,0,by rw[h1,h2],by omega,by omega,fun _=>rfl,fun g hg=>by rw[h1] at hg;cases hg⟩
 ·exact⟨_,cap,h3,h6,h7,(fun h=>by cases h),(fun g' hg=>by rw[h3] at hg;cases hg;rfl)⟩
theorem bS {w w':ag}{B k n:Nat}{e:TypeId}{v:ah}{xs:List ah}(h:w.ownsRow B e k v n xs)(hs:∀g,v.ownBlock=some g->w'.heap[g]? =w.heap[g]?):w'.ownsRow B e k v n xs:=by
 obtain⟨h1,h2⟩:=h;refine⟨h1,?_⟩;rcases h2 with h2|⟨g,cap,cur,h3,h4,h5,h6⟩
 ·exact .inl h2
 ·exact .inr ⟨g,cap,cur,h3,h4,(hs g (by rw[h3];rfl)).trans h5,h6⟩
theorem aQ {B k n:Nat}{e:TypeId}{v:ah}{xs:List ah}{w w':ag}(h:w.ownsRow B e k v n xs)(hb:Below w.heap.size w w'):w'.ownsRow B e k v n xs:=
 bS h fun g hg=>hb.block g (h.lt g hg).2
theorem own_ne {R B k n:Nat}{e:TypeId}{v:ah}{xs:List ah}{w:ag}(h:w.ownsRow B e k v n xs)(hR:R<B):some R≠v.ownBlock:=fun e=>by have:=(h.lt R e.symm).1;omega
theorem Cg:(prog.info? 100).map (fun i=>(i.zero,i.size,i.bytes))=some (some (.agg #[.string ⟨#[]⟩,.string ⟨#[]⟩]),2,32):=by kernel_rfl
theorem sI:(prog.info? 3).map (fun i=>(i.zero,i.size,i.bytes))=some (some (aa 0),1,8):=by kernel_rfl
def NB (N:Nat)(c0 c1 c2:ah)(w:ag):Prop:=w.heap[N]? =some (.cells #[c0,c1,c2] 36)
theorem NB.c0 {N:Nat}{c0 c1 c2:ah}{w:ag}(h:NB N c0 c1 c2 w):w.cell? (ak N 0)=some c0:=aD h 0 _ rfl
theorem NB.c1 {N:Nat}{c0 c1 c2:ah}{w:ag}(h:NB N c0 c1 c2 w):w.cell? (ak N 1)=some c1:=aD h 1 _ rfl
theorem NB.c2 {N:Nat}{c0 c1 c2:ah}{w:ag}(h:NB N c0 c1 c2 w):w.cell? (ak N 2)=some c2:=aD h 2 _ rfl
inductive Tg where
 |doc
 |map
 |el (i:Int)
 |ats (i:Int)
 |kids (i:Int)
abbrev bP:=Nat->Option Tg
def aU (l:List Int):List ah:=l.map (Value.int .i64)
theorem FW (a b:List Int):aU (a++b)=aU a++aU b:=List.map_append
theorem o8 (l:List Int):(aU l).length=l.length:=List.length_map ..
theorem og {l:List Int}{j:Nat}{k:Int}(h:l[j]? =some k):(aU l)[j]? =some (aa k):=by
 unfold aU;rw[List.getElem?_map,h];rfl
abbrev dR (k:Int):Prop:=(Lit.int .i64 k).wf=true
structure xX (B:Nat)(tg:bP)(w:ag)(i:Int)(b:Nat)(e:gH)(va vk:ah):Prop where
 cells:w.heap[b]? =some (.cells #[.string ⟨e.name.toArray⟩,va,aa e.parent,vk] 102)
 tag:tg b=some (.el i)
 ats:w.ownsRow B 100 2 va e.ats.length (bJ e.ats)
 kZ:∀g,va.ownBlock=some g->tg g=some (.ats i)
 kids:w.ownsRow B 3 1 vk e.kids.length (aU e.kids)
 iO:∀g,vk.ownBlock=some g->tg g=some (.kids i)
theorem xX.turn {B:Nat}{tg kR:bP}{w w':ag}{i:Int}{b:Nat}{e:gH}{va vk:ah}(h:xX B tg w i b e va vk)(hs:∀g t,tg g=some t->(t=.el i\/t=.ats i\/t=.kids i)->kR g=some t/\w'.heap[g]? =w.heap[g]?):xX B kR w' i b e va vk where
 cells:=((hs b _ h.tag (.inl rfl)).2).trans h.cells
 tag:=(hs b _ h.tag (.inl rfl)).1
 ats:=bS h.ats fun g hg=>(hs g _ (h.kZ g hg) (.inr (.inl rfl))).2
 kZ:=fun g hg=>(hs g _ (h.kZ g hg) (.inr (.inl rfl))).1
 kids:=bS h.kids fun g hg=>(hs g _ (h.iO g hg) (.inr (.inr rfl))).2
 iO:=fun g hg=>(hs g _ (h.iO g hg) (.inr (.inr rfl))).1
theorem xX.c0 {B:Nat}{tg:bP}{w:ag}{i:Int}{b:Nat}{e:gH}{va vk:ah}(h:xX B tg w i b e va vk):w.cell? (ak b 0)=some (.string ⟨e.name.toArray⟩):=aD h.cells 0 _ rfl
theorem xX.c1 {B:Nat}{tg:bP}{w:ag}{i:Int}{b:Nat}{e:gH}{va vk:ah}(h:xX B tg w i b e va vk):w.cell? (ak b 1)=some va:=aD h.cells 1 _ rfl
theorem xX.c2 {B:Nat}{tg:bP}{w:ag}{i:Int}{b:Nat}{e:gH}{va vk:ah}(h:xX B tg w i b e va vk):w.cell? (ak b 2)=some (aa e.parent):=aD h.cells 2 _ rfl
theorem xX.c3 {B:Nat}{tg:bP}{w:ag}{i:Int}{b:Nat}{e:gH}{va vk:ah}(h:xX B tg w i b e va vk):w.cell? (ak b 3)=some vk:=aD h.cells 3 _ rfl
theorem aR {w:ag}{b:Nat}{cs:Array ah}{t:TypeId}(h:w.heap[b]? =some (.cells cs t))(i:Nat):w.frozen? ⟨b,i,none⟩=false:=by
 unfold World.frozen?;rw[h];simp
structure aX (B:Nat)(tg:bP)(w:ag)(DB MB:Nat)(p:Int->Option Nat)(M:Dm)(nx c:Nat):Prop where
 doc:w.heap[DB]? =some (.cells #[.map (some MB),aa nx] 95)
 ji:tg DB=some .doc
 map:gq prog 3 w MB p nx c
 jk:tg MB=some .map
 els:∀i e,M i=some e->∃b va vk,p i=some b/\xX B tg w i b e va vk
 non:∀i,M i=none->p i=none
 low:∀b t,tg b=some t->B<=b/\b<w.heap.size
 dom:∀i e,M i=some e->0<=i/\i<nx
 wf:∀i e,M i=some e->dR e.parent/\∀k∈e.kids,dR k
 few:nx<=1000000
 Nh:∀b i,tg b=some (.el i)\/tg b=some (.ats i)\/tg b=some (.kids i)->i<nx
structure K2 (r n:Nat)(W w:ag):Prop where
 os:w.os=W.os
 tape:w.tape=W.tape
 output:w.output=W.output
 size:W.heap.size<=w.heap.size
 block:∀k,k<W.heap.size->k≠r->k≠n->w.heap[k]? =W.heap[k]?
theorem K2.refl (r n:Nat)(W:ag):K2 r n W W:=⟨rfl,rfl,rfl,Nat.le_refl _,fun _ _ _ _=>rfl⟩
theorem K2.trans {r n:Nat}{A B C:ag}(h:K2 r n A B)(k:K2 r n B C):K2 r n A C:=
 ⟨k.os.trans h.os,k.tape.trans h.tape,k.output.trans h.output,aJ h.size k.size,fun i hi h1 h2=>(k.block i (bI hi h.size) h1 h2).trans (h.block i hi h1 h2)⟩
theorem K2.of_below {r n:Nat}{A B:ag}(h:Below A.heap.size A B):K2 r n A B:=⟨h.os,h.tape,h.output,h.size,fun i hi _ _=>h.block i hi⟩
theorem K2.below {r n m:Nat}{A B:ag}(h:K2 r n A B)(h1:m<=r)(h2:m<=n)(hm:m<=A.heap.size):Below m A B:=⟨h.os,h.tape,h.output,h.size,fun i hi=>h.block i (by omega) (by omega) (by omega)⟩
theorem K2.cell {r n:Nat}{A B:ag}(h:K2 r n A B){b i:Nat}{v:ah}(hc:A.cell? (ak b i)=some v)(h1:b≠r)(h2:b≠n):B.cell? (ak b i)=some v:=by
 rw[World.cell?_of_block (h.block b (az hc) h1 h2)];exact hc
structure KT (tg:bP)(w w':ag):Prop where
 os:w'.os=w.os
 tape:w'.tape=w.tape
 output:w'.output=w.output
 size:w.heap.size<=w'.heap.size
 block:∀b,b<w.heap.size->tg b=none->w'.heap[b]? =w.heap[b]?
theorem KT.of_below {tg:bP}{w w':ag}(h:Below w.heap.size w w'):KT tg w w':=⟨h.os,h.tape,h.output,h.size,fun b hb _=>h.block b hb⟩
theorem KT.trans {tg kR:bP}{w w' w'':ag}(h:KT tg w w')(k:KT kR w' w'')(hg:∀b,b<w.heap.size->kR b=tg b):KT tg w w'':=
 ⟨k.os.trans h.os,k.tape.trans h.tape,k.output.trans h.output,aJ h.size k.size,fun b hb hn=>(k.block b (bI hb h.size) ((hg b hb).trans hn)).trans (h.block b hb hn)⟩
theorem KT.below {B:Nat}{tg:bP}{w w':ag}(h:KT tg w w')(hl:∀b t,tg b=some t->B<=b)(hB:B<=w.heap.size):Below B w w':=
 ⟨h.os,h.tape,h.output,h.size,fun b hb=>h.block b (bI hb hB) (by
  cases ht:tg b with
  |none=>rfl
  |some t=>have:=hl b t ht;omega)⟩
section
variable {B:Nat}{tg kR:bP}{w w':ag}{DB MB:Nat}{p:Int->Option Nat}{M:Dm}{nx c:Nat}
theorem aX.turn (h:aX B tg w DB MB p M nx c)(hs:∀g t,tg g=some t->w'.heap[g]? =w.heap[g]?)(hz:w.heap.size<=w'.heap.size):aX B tg w' DB MB p M nx c where
 doc:=(hs DB _ h.ji).trans h.doc
 ji:=h.ji
 map:=h.map.same (hs MB _ h.jk)
 jk:=h.jk
 els:=fun i e he=>by
  obtain⟨b,va,vk,h1,h2⟩:=h.els i e he;exact⟨b,va,vk,h1,h2.turn fun g t ht _=>⟨ht,hs g t ht⟩⟩
 non:=h.non
 low:=fun b t ht=>⟨(h.low b t ht).1,bI (h.low b t ht).2 hz⟩
 dom:=h.dom
 wf:=h.wf
 few:=h.few
 Nh:=h.Nh
theorem aX.below (h:aX B tg w DB MB p M nx c)(hb:Below w.heap.size w w'):aX B tg w' DB MB p M nx c:=
 h.turn (fun g t ht=>hb.block g (h.low g t ht).2) hb.size
theorem aX.d0 (h:aX B tg w DB MB p M nx c):w.cell? (ak DB 0)=some (.map (some MB)):=aD h.doc 0 _ rfl
theorem aX.d1 (h:aX B tg w DB MB p M nx c):w.cell? (ak DB 1)=some (aa nx):=aD h.doc 1 _ rfl
theorem aX.i64 (h:aX B tg w DB MB p M nx c){i:Int}{e:gH}(he:M i=some e):dR i:=by
 have:=h.dom i e he;have:=h.few;exact WalkArith.wf_i64 (by omega)
theorem aX.new (h:aX B tg w DB MB p M nx c){b:Nat}(hb:w.heap.size<=b):tg b=none:=by
 cases ht:tg b with
 |none=>rfl
 |some t=>have:=(h.low b t ht).2;omega
theorem aX.put (h:aX B tg w DB MB p M nx c){i:Int}{e e':gH}{b:Nat}{va vk:ah}(hi:M i=some e)(hb:p i=some b)(he:xX B kR w' i b e' va vk)(_hz:w.heap.size<=w'.heap.size)(hw:dR e'.parent/\∀k∈e'.kids,dR k)
  (hg:∀x,x<w.heap.size->kR x=tg x) (hl:∀x t,kR x=some t->B<=x/\x<w'.heap.size) (ht:∀x,w.heap.size<=x->kR x=none\/kR x=some (.el i)\/kR x=some (.ats i)\/kR x=some (.kids i)) (hs:∀x t,tg x=some t->t≠.el i->t≠.ats i->t≠.kids i->w'.heap[x]? =w.heap[x]?):aX B kR w' DB MB p (dZ M i e') nx c where
 doc:=(hs DB _ h.ji (by simp) (by simp) (by simp)).trans h.doc
 ji:=(hg DB (h.low _ _ h.ji).2).trans h.ji
 map:=h.map.same (hs MB _ h.jk (by simp) (by simp) (by simp))
 jk:=(hg MB (h.low _ _ h.jk).2).trans h.jk
 els:=fun j f hf=>by
  unfold dZ at hf;split at hf
  ·rename_i hj;subst hj;cases hf;exact⟨b,va,vk,hb,he⟩
  ·rename_i hj;obtain⟨b',va',vk',h1,h2⟩:=h.els j f hf;refine⟨b',va',vk',h1,h2.turn fun g t ht hk=>⟨(hg g (h.low g t ht).2).trans ht,hs g t ht ?_ ?_ ?_⟩⟩
   all_goals rcases hk with rfl|rfl|rfl<;>simp[hj]
 non:=fun j hj=>by
  unfold dZ at hj;split at hj
  ·cases hj
  ·exact h.non j hj
 low:=hl
 dom:=fun j f hf=>by
  unfold dZ at hf;split at hf
  ·rename_i hj;subst hj;exact h.dom _ e hi
  ·exact h.dom j f hf
 wf:=fun j f hf=>by
  unfold dZ at hf;split at hf
  ·cases hf;exact hw
  ·exact h.wf j f hf
 few:=h.few
 Nh:=fun x j hj=>by
  by_cases hx:x<w.heap.size
  ·rw[hg x hx] at hj;exact h.Nh x j hj
  ·have hij:j=i:=by
    rcases ht x (by omega) with h1|h1|h1|h1<;>rw[h1] at hj<;>simp at hj<;>exact hj.symm
   rw[hij];exact(h.dom i e hi).2
theorem KT.a9q (h:aX B tg w DB MB p M nx c)(k:K2 DB MB w w'):KT tg w w':=
 ⟨k.os,k.tape,k.output,k.size,fun b hb hn=>k.block b hb (fun e=>by rw[e,h.ji] at hn;cases hn) (fun e=>by rw[e,h.jk] at hn;cases hn)⟩
end
theorem eD (w:ag):(zeroValue 97).run prog w=.ok (.pointer none) w:=by kernel_rfl
structure U4 (B:Nat)(tg:bP)(w:ag)(b:Nat)(e:gH)(va vk:ah):Prop where
 cells:w.heap[b]? =some (.cells #[.string ⟨e.name.toArray⟩,va,aa e.parent,vk] 102)
 low:B<=b
 tag:tg b=none
 ats:w.ownsRow B 100 2 va e.ats.length (bJ e.ats)
 kZ:∀g,va.ownBlock=some g->tg g=none/\g≠b
 kids:w.ownsRow B 3 1 vk e.kids.length (aU e.kids)
 iO:∀g,vk.ownBlock=some g->tg g=none/\g≠b/\va.ownBlock≠some g
def kS (tg:bP)(i:Int)(b:Nat)(va vk:ah):bP:=fun x=>if x=b then some (.el i) else if va.ownBlock=some x then some (.ats i) else if vk.ownBlock=some x then some (.kids i) else tg x
theorem Ch {tg:bP}{i:Int}{b:Nat}{va vk:ah}{x:Nat}{t:Tg}(h:tg x=some t)(hb:tg b=none)(ha:∀g,va.ownBlock=some g->tg g=none)(hk:∀g,vk.ownBlock=some g->tg g=none):kS tg i b va vk x=some t:=by
 unfold kS;rw[if_neg (fun e=>by rw[e,hb] at h;cases h),if_neg (fun e=>by rw[ha x e] at h;cases h),if_neg (fun e=>by rw[hk x e] at h;cases h)];exact h
theorem xY {tg:bP}{i:Int}{b:Nat}{va vk:ah}{x:Nat}(h1:x≠b)(h2:va.ownBlock≠some x)(h3:vk.ownBlock≠some x):kS tg i b va vk x=tg x:=by
 unfold kS;rw[if_neg h1,if_neg h2,if_neg h3]
section
variable {B:Nat}{tg:bP}{w w':ag}{DB MB:Nat}{p:Int->Option Nat}{M:Dm}{nx c:Nat}
theorem aX.add (h:aX B tg w DB MB p M nx c){b:Nat}{e:gH}{va vk:ah}(hn:U4 B tg w b e va vk)(hw:dR e.parent/\∀k∈e.kids,dR k)(hnx:nx<1000000)
  (hm:gq prog 3 w' MB (fun i=>if i=(nx:Int) then some b else p i) (nx+1) (c+1)) (hd:w'.heap[DB]? =some (.cells #[.map (some MB),aa ((nx+1:Nat):Int)] 95))
  (hs:∀x,x≠DB->x≠MB->w'.heap[x]? =w.heap[x]?) (hz:w.heap.size<=w'.heap.size):aX B (kS tg nx b va vk) w' DB MB (fun i=>if i=(nx:Int) then some b else p i) (dZ M nx e) (nx+1) (c+1):=by
 have old:∀x t,tg x=some t->kS tg nx b va vk x=some t:=fun x t ht=>Ch ht hn.tag (fun g hg=>(hn.kZ g hg).1) (fun g hg=>(hn.iO g hg).1);have ne:∀x t,tg x=some t->t≠.doc->t≠.map->x≠DB/\x≠MB:=fun x t ht h1 h2=>⟨fun e=>h1 (dP (ht.symm.trans (e▸h.ji))),fun e=>h2 (dP (ht.symm.trans (e▸h.jk)))⟩;have nne:∀x,tg x=none->x≠DB/\x≠MB:=fun x hx=>⟨fun e=>(by rw[e,h.ji] at hx;exact absurd hx (by simp)),fun e=>(by rw[e,h.jk] at hx;exact absurd hx (by simp))⟩;have hbn:=nne b hn.tag;refine⟨hd,old _ _ h.ji,hm,old _ _ h.jk,fun i f hf=>?_,fun i hi=>?_,fun x t ht=>?_,fun i f hf=>?_,fun i f hf=>?_,by omega,fun x j hj=>?_⟩
 ·unfold dZ at hf;by_cases hi:i=nx
  ·rw[if_pos hi] at hf;cases hf;subst hi;refine⟨b,va,vk,by simp,⟨(hs b hbn.1 hbn.2).trans hn.cells,by unfold kS;rw[if_pos rfl],bS hn.ats fun g hg=>?_,fun g hg=>?_,bS hn.kids fun g hg=>?_,fun g hg=>?_⟩⟩
   ·have:=nne g (hn.kZ g hg).1;exact hs g this.1 this.2
   ·unfold kS;rw[if_neg (hn.kZ g hg).2,if_pos hg]
   ·have:=nne g (hn.iO g hg).1;exact hs g this.1 this.2
   ·unfold kS;rw[if_neg (hn.iO g hg).2.1,if_neg (hn.iO g hg).2.2,if_pos hg]
  ·rw[if_neg hi] at hf;obtain⟨b',va',vk',h1,h2⟩:=h.els i f hf;refine⟨b',va',vk',by simp only[if_neg hi];exact h1,h2.turn fun g t ht hk=>⟨old g t ht,?_⟩⟩;have:=ne g t ht (by rcases hk with rfl|rfl|rfl<;>simp) (by rcases hk with rfl|rfl|rfl<;>simp);exact hs g this.1 this.2
 ·unfold dZ at hi;by_cases hj:i=nx
  ·rw[if_pos hj] at hi;cases hi
  ·rw[if_neg hj] at hi;simp only[if_neg hj];exact h.non i hi
 ·unfold kS at ht;split at ht
  ·rename_i e;subst e;exact⟨hn.low,bI (aI hn.cells) hz⟩
  ·split at ht
   ·rename_i e;have:=hn.ats.lt x e;omega
   ·split at ht
    ·rename_i e;have:=hn.kids.lt x e;omega
    ·have:=h.low x t ht;omega
 ·unfold dZ at hf;by_cases hi:i=nx
  ·omega
  ·rw[if_neg hi] at hf;have:=h.dom i f hf;omega
 ·unfold dZ at hf;by_cases hi:i=nx
  ·rw[if_pos hi] at hf;cases hf;exact hw
  ·rw[if_neg hi] at hf;exact h.wf i f hf
 ·unfold kS at hj;split at hj
  ·have:(nx:Int)=j:=by simpa using hj
   omega
  ·split at hj
   ·have:(nx:Int)=j:=by simpa using hj
    omega
   ·split at hj
    ·have:(nx:Int)=j:=by simpa using hj
     omega
    ·have:=h.Nh x j hj;omega
theorem aX.fresh (h:aX B tg w DB MB p M nx c):M nx=none/\p nx=none:=by
 have:M nx=none:=by
  cases hm:M nx with
  |none=>rfl
  |some e=>have:=h.dom nx e hm;omega
 exact⟨this,h.non nx this⟩
theorem aX.ne (h:aX B tg w DB MB p M nx c):MB≠DB:=fun e=>by have h1:=h.ji;rw[<- e,h.jk] at h1;cases h1
end
theorem Li (B:Nat)(tg:bP)(w:ag)(DB MB:Nat)(p:Int->Option Nat)(M:Dm)(nx c b:Nat)(e:gH)(va vk:ah)(h:aX B tg w DB MB p M nx c)(hn:U4 B tg w b e va vk)(hw:dR e.parent/\∀k∈e.kids,dR k)(hnx:nx<1000000):
  au 42 #[ay DB,ay b] w fun r w'=>r=.returned (aa nx)/\K2 DB MB w w'/\aX B (kS tg nx b va vk) w' DB MB (fun i=>if i=(nx:Int) then some b else p i) (dZ M nx e) (nx+1) (c+1):=by
 have d0:=h.d0;have d1:=h.d1;have hfr:=h.fresh;have hmx:nx<maxLen:=by rw[bq];omega
 have hne:=h.ne;go_enter func42,ntmps42;go_wp2_with(at_mapUpdate;refine TM _ rfl _ _ _ 93 rfl underlying3 underlying93 rfl h.map hmx (nx:Int) rfl (WalkArith.wf_i64 (by omega)) b rfl hfr.2 ?_;intro w1 pm1 ht1;have e0:=(ht1.grown.block DB (aI h.doc) (fun e=>hne (dP e).symm)).trans h.doc;have c0:=aD e0 0 _ rfl;have c1:=aD e0 1 _ rfl;have cf:=aR e0);go_ret;have hs1:=heap_setCell_same w1 DB 1 _ _ (aa ((nx:Int)+1)) e0;have hb:∀x,x≠DB->x≠MB->(w1.setCell ⟨DB,1,none⟩ (aa ((nx:Int)+1))).heap[x]? =w.heap[x]? :=fun x h1 h2=>by
  rw[aY _ _ _ x h1];by_cases hx:x<w.heap.size
  ·exact ht1.grown.block x hx (fun e=>h2 (dP e))
  ·have:w1.heap.size=w.heap.size:=by obtain⟨es,cl,es',cl', -,rfl⟩:=ht1;simp[Go.ChangeMaps.setBlock]
   rw[Array.getElem?_eq_none (by omega),Array.getElem?_eq_none (by omega)]
 have hz:w.heap.size<=(w1.setCell ⟨DB,1,none⟩ (aa ((nx:Int)+1))).heap.size:=by
  have:=ht1.grown.size;have:=((aG DB w1).setCell (p:=⟨DB,1,none⟩) ai (aa ((nx:Int)+1))).size;omega
 have hset:=(aG DB w1).setCell (p:=⟨DB,1,none⟩) ai (aa ((nx:Int)+1));refine⟨rfl,⟨hset.os.trans ht1.grown.os,hset.tape.trans ht1.grown.tape,hset.output.trans ht1.grown.output,hz,fun x _ h1 h2=>hb x h1 h2⟩,h.add hn hw hnx (pm1.same (aY _ _ _ MB hne)) ?_ hb hz⟩;rw[hs1];rfl
theorem oh {B:Nat}{tg:bP}{w:ag}{DB MB:Nat}{p:Int->Option Nat}{M:Dm}{nx c:Nat}(h:aX B tg w DB MB p M nx c)(n:Int)(hn:dR n):
  au 84 #[ay DB,aa n] w fun r w'=>r=.returned (.string ⟨(match M n with|none=>[]|some e=>e.name).toArray⟩)/\w'=w:=by
 have d0:=h.d0;cases hm:M n with
 |none=>
  have hp:=h.non n hm;go_enter func84,ntmps84;go_wp2_with(at_lookup;refine lC _ rfl _ _ 93 rfl underlying3 underlying93 (eD _) rfl h.map n rfl hn hp ?_);go_ret;exact⟨rfl,rfl⟩
 |some e=>
  obtain⟨b,va,vk,hp,he⟩:=h.els n e hm;have x0:=he.c0;go_enter func84,ntmps84;go_wp2_with(at_lookup;refine fq _ rfl _ _ 93 rfl underlying3 underlying93 (eD _) rfl h.map n rfl hn b hp ?_);go_ret;exact⟨rfl,rfl⟩
theorem Ci {B:Nat}{tg:bP}{w:ag}{DB MB:Nat}{p:Int->Option Nat}{M:Dm}{nx c:Nat}(h:aX B tg w DB MB p M nx c)(n:Int)(hn:dR n):
  au 85 #[ay DB,aa n] w fun r w'=>r=.returned (aa (match M n with|none=> -1|some e=>e.parent))/\w'=w:=by
 have d0:=h.d0;cases hm:M n with
 |none=>
  have hp:=h.non n hm;go_enter func85,ntmps85;go_wp2_with(at_lookup;refine lC _ rfl _ _ 93 rfl underlying3 underlying93 (eD _) rfl h.map n rfl hn hp ?_);go_ret;exact⟨rfl,rfl⟩
 |some e=>
  obtain⟨b,va,vk,hp,he⟩:=h.els n e hm;have x0:=he.c2;go_enter func85,ntmps85;go_wp2_with(at_lookup;refine fq _ rfl _ _ 93 rfl underlying3 underlying93 (eD _) rfl h.map n rfl hn b hp ?_);go_ret;exact⟨rfl,rfl⟩
theorem xZ {B:Nat}{tg:bP}{w:ag}{DB MB:Nat}{p:Int->Option Nat}{M:Dm}{nx c:Nat}(h:aX B tg w DB MB p M nx c):
  au 206 #[ay DB] w fun r w'=>r=.returned (aa c)/\w'=w:=by
 have d0:=h.d0;go_enter func206,ntmps206;go_wp2_with(at_len;refine Xv _ rfl _ 93 rfl underlying93 rfl h.map ?_);go_ret;exact⟨rfl,rfl⟩
end
end Go.Proofs.YtecneflbncjhpaaGreatDoor

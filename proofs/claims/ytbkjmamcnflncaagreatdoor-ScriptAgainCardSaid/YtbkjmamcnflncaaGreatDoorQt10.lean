import Derived.Test.YtbkjmamcnflncaaGreatDoorChecked
import Derived.Lib.QuietBelow
import Derived.Test.YtbkjmamcnflncaaGreatDoorQt6
import Derived.Test.YtbkjmamcnflncaaGreatDoorQt1
import Derived.Test.YtbkjmamcnflncaaGreatDoorQt9
namespace Go.Proofs.YtbkjmamcnflncaaGreatDoor
open Go.Proofs.Tryz
set_option maxHeartbeats 8000000
variable{ats:List (Bs×Bs)}{nm:Bs}{D:List Nd}{e:ig}
section
open Go.RowKit
theorem Gx (s:aO):s.data.toList.length=s.size:=Array.length_toList
theorem Qj (s:aO)(i:Nat)(h:i<s.size):s.data.toList[i]'(by rw[Gx];exact h)=s[i]:=by simp[ByteArray.getElem_eq_getElem_data]
theorem aft (c d:UInt8):(c<=d)↔((c.toNat:Int)<=(d.toNat:Int)):=by rw[UInt8.le_iff_toNat_le];omega
theorem a6N (c d:UInt8):(c<d)↔((c.toNat:Int)<(d.toNat:Int)):=by rw[UInt8.lt_iff_toNat_lt];omega
theorem JL (c d:UInt8):(c=d)↔((c.toNat:Int)=(d.toNat:Int)):=by rw[<- UInt8.toNat_inj];omega
theorem Fp (c:UInt8):(c.toNat:Int)<=255:=by have:=c.toNat_lt;omega
theorem a6O {s:aO}(h:0<s.size):s.toList.isEmpty=false:=by
 rw[gN,List.isEmpty_eq_false_iff];intro e;have:=Gx s;grind
theorem a2f (c:UInt8):EG c=true↔97<=(c.toNat:Int)/\(c.toNat:Int)<=122:=by
 simp only[EG,jg,lG,aft];rfl
theorem a2g (c:UInt8):TW c=true↔48<=(c.toNat:Int)/\(c.toNat:Int)<=57:=by
 simp only[TW,jg,lG,aft];rfl
theorem l6 (c:UInt8)(w:ai):aL 243 #[.int .u8 c.toNat] w λe w'=>e=ay (.bool (EG c))/\w'=w:=by
 have a:=a2f c;generalize EG c=b at a⊢;by_cases d:97<=(c.toNat:Int)
 .by_cases f:(c.toNat:Int)<=122
  .obtain rfl:b=true:=a.2 ⟨d,f⟩;clear a;go_enter func243,ntmps243;go_wp2;go_ret;exact⟨rfl,rfl⟩
  .obtain rfl:b=false:=by cases b with
    |false=>rfl
    |true=>exact(f (a.1 rfl).2).elim
   clear a;go_enter func243,ntmps243;go_wp2;go_ret;exact⟨rfl,rfl⟩
 .obtain rfl:b=false:=by cases b with
   |false=>rfl
   |true=>exact(d (a.1 rfl).1).elim
  clear a;go_enter func243,ntmps243;go_wp2;go_ret;exact⟨rfl,rfl⟩
theorem wR (c:UInt8)(w:ai):aL 244 #[.int .u8 c.toNat] w λe w'=>e=ay (.bool (TW c))/\w'=w:=by
 have a:=a2g c;generalize TW c=b at a⊢;by_cases d:48<=(c.toNat:Int)
 .by_cases f:(c.toNat:Int)<=57
  .obtain rfl:b=true:=a.2 ⟨d,f⟩;clear a;go_enter func244,ntmps244;go_wp2;go_ret;exact⟨rfl,rfl⟩
  .obtain rfl:b=false:=by cases b with
    |false=>rfl
    |true=>exact(f (a.1 rfl).2).elim
   clear a;go_enter func244,ntmps244;go_wp2;go_ret;exact⟨rfl,rfl⟩
 .obtain rfl:b=false:=by cases b with
   |false=>rfl
   |true=>exact(d (a.1 rfl).1).elim
  clear a;go_enter func244,ntmps244;go_wp2;go_ret;exact⟨rfl,rfl⟩
theorem a2h (s:aO):iQ s.data.toList=true↔∃e:0<s.size,s.size<=12/\EG s[0]=true/\∀i (h:i<s.size),1<=i->nmB s[i]=true:=by
 have a:=Gx s;have k:=λi h=>Qj s i h;constructor
 .intro h;cases b:s.data.toList with
  |nil=>rw[b] at h;simp[iQ] at h
  |cons c r=>
   rw[b] at h a;simp only[iQ,jg,lG,List.all_eq_true] at h;grind
 .rintro⟨e,f,l,m⟩;cases b:s.data.toList with
  |nil=>rw[b] at a;simp at a;omega
  |cons c r=>
   rw[b] at a;simp only[iQ,jg,lG,List.all_eq_true];refine⟨⟨by rw[a];exact f,?_⟩,λd g=>?_⟩
   .grind
   .obtain⟨i,n,rfl⟩:=List.mem_iff_getElem.1 g;have j:i+1<s.size:=by grind
    grind
theorem jK (s:aO)(hs:s.size<=9223372036854775807)(w:ai):aL 177 #[au s] w λe w'=>e=ay (.bool (iQ s.data.toList))/\w'=w:=by
 have n:=a2h s;generalize iQ s.data.toList=b at n⊢;have d:Hid ((¬∃j:0<s.size,s.size<=12/\EG s[0]=true/\∀i (h:i<s.size),1<=i->nmB s[i]=true)->b=false):=λh=>by
  cases b with
  |false=>rfl
  |true=>exact(h (n.1 rfl)).elim
 have c:Hid ((∃j:0<s.size,s.size<=12/\EG s[0]=true/\∀i (h:i<s.size),1<=i->nmB s[i]=true)->b=true):=n.2;clear n;by_cases j:0<s.size
 .have hE:=a6O j;have q:¬s.toList=[]:=by intro e;rw[e] at hE;simp at hE
  by_cases B:s.size<=12
  .have r:(s.size:Int)<=12:=aa;cases o:EG s[0] with
   |false=>
    obtain rfl:=d.out (λ⟨_,_,h,_⟩=>by rw[o] at h;cases h);clear d c;go_enter func177,ntmps177;go_wp2_with(go_at_call 243;refine(l6 s[0] _).mono ?_;rw[o];rintro e F ⟨rfl,rfl⟩);go_ret;exact⟨rfl,rfl⟩
   |true=>
    go_enter func177,ntmps177;go_wp2_with(go_at_call 243;refine(l6 s[0] _).mono ?_;rw[o];rintro e F ⟨rfl,rfl⟩)
    go_loop [3] (λy=>∃k:Nat,k<=s.size/\1<=k/\y=ag k/\∀i (h:i<s.size),1<=i->i<k->nmB s[i]=true) (λy=>s.size-(intOf y).toNat)
    case atStart=>exact⟨1,aa,aa,rfl,λi _ a b=>aa⟩
    case round=>
     obtain⟨k,I,t,rfl,f⟩:=hrel;have g:=aF f;clear f;by_cases u:k<s.size
     .have C:(k:Int)<(s.size:Int):=aa;have J:=Fp s[k];cases l:EG s[k] with
      |true=>
       go_wp2_with(go_at_call 243;refine(l6 s[k] _).mono ?_;rw[l];rintro e v ⟨rfl,rfl⟩)
       go_round
       case rel=>exact⟨k+1,aa,aa,by go_num,λi h a b=>by
        by_cases e:i<k
        .exact g.out i h a e
        .obtain rfl:i=k:=aa;simp[nmB,l]⟩
       case measure=>simp[intOf];omega
      |false=>
       cases p:TW s[k] with
       |true=>
        go_wp2_with(first|(go_at_call 243;refine(l6 s[k] _).mono ?_;rw[l];rintro e v ⟨rfl,rfl⟩)|(go_at_call 244;refine(wR s[k] _).mono ?_;rw[p];rintro e D ⟨rfl,rfl⟩))
        go_round
        case rel=>exact⟨k+1,aa,aa,by go_num,λi h a b=>by
         by_cases e:i<k
         .exact g.out i h a e
         .obtain rfl:i=k:=aa;simp[nmB,p]⟩
        case measure=>simp[intOf];omega
       |false=>
        by_cases m:(s[k].toNat:Int)=45
        .have x:∀w,aL 243 #[.int .u8 45] w λe w'=>e=ay (.bool false)/\w'=w:=λw=>by have:=l6 45 w;rwa[show EG 45=false from by decide,show(((45:UInt8).toNat:Nat):Int)=45 from by decide] at this
         have z:∀w,aL 244 #[.int .u8 45] w λe w'=>e=ay (.bool false)/\w'=w:=λw=>by have:=wR 45 w;rwa[show TW 45=false from by decide,show(((45:UInt8).toNat:Nat):Int)=45 from by decide] at this
         have A:Hid (nmB s[k]=true):=(by have:s[k]=45:=(JL _ _).2 (m.trans aC);simp[nmB,this]:nmB s[k]=true);go_wp2_with(first|(go_at_call 243;refine(x _).mono ?_;rintro e v ⟨rfl,rfl⟩)|(go_at_call 244;refine(z _).mono ?_;rintro e D ⟨rfl,rfl⟩))
         go_round
         case rel=>exact⟨k+1,aa,aa,by go_num,λi h a b=>by
          by_cases e:i<k
          .exact g.out i h a e
          .obtain rfl:i=k:=aa;exact A.out⟩
         case measure=>simp[intOf];omega
        .have E:nmB s[k]=false:=by
          have:¬s[k]=45:=λe=>m (((JL _ _).1 e).trans aC);simp[nmB,l,p,this]
         obtain rfl:=d.out (λ⟨_,_,_,h⟩=>by have:=h k u t;rw[E] at this;cases this);clear d c g E;go_wp2_with(first|(go_at_call 243;refine(l6 s[k] _).mono ?_;rw[l];rintro e v ⟨rfl,rfl⟩)|(go_at_call 244;refine(wR s[k] _).mono ?_;rw[p];rintro e D ⟨rfl,rfl⟩));go_ret;exact⟨rfl,rfl⟩
     .obtain rfl:=c.out ⟨j,B,o,λi h a=>g.out i h a aa⟩;clear d c g;have H:¬(k:Int)<(s.size:Int):=aa;go_wp2_with fail;go_ret;exact⟨rfl,rfl⟩
  .obtain rfl:=d.out (λ⟨_,h,_⟩=>B h);clear d c;have r:12<(s.size:Int):=aa;go_enter func177,ntmps177;go_wp2_with fail;go_ret;exact⟨rfl,rfl⟩
 .obtain rfl:=d.out (λ⟨h,_⟩=>j h);clear d c;have hE:s.toList.isEmpty=true:=by
   rw[gN,List.isEmpty_iff];exact lu.1 (by rw[Gx];omega)
  have q:s.toList=[]:=List.isEmpty_iff.1 hE;go_enter func177,ntmps177;go_wp2_with fail;go_ret;exact⟨rfl,rfl⟩
theorem YU (s:aO):isVal s.data.toList=true↔s.size<=200/\∀i (h:i<s.size),32<=(s[i].toNat:Int)/\(s[i].toNat:Int)<=126:=by
 have b:=Gx s;simp only[isVal,jg,lG,List.all_eq_true,b,Bool.not_eq_true',decide_eq_false_iff_not];refine and_congr_right λ_=>⟨λh i a=>?_,λh c d=>?_⟩
 .have:=h s[i] (by rw[<- Qj s i a];exact List.getElem_mem _);rw[a6N,a6N] at this;grind
 .obtain⟨i,a,rfl⟩:=List.mem_iff_getElem.1 d;rw[b] at a;have:=h i a;rw[Qj s i a,a6N,a6N];grind
theorem DZ (s:aO)(hs:s.size<=9223372036854775807)(w:ai):aL 210 #[au s] w λe w'=>e=ay (.bool (isVal s.data.toList))/\w'=w:=by
 have j:=YU s;generalize isVal s.data.toList=b at j⊢;have d:Hid ((¬(s.size<=200/\∀i (h:i<s.size),32<=(s[i].toNat:Int)/\(s[i].toNat:Int)<=126))->b=false):=λh=>by
  cases b with
  |false=>rfl
  |true=>exact(h (j.1 rfl)).elim
 have a:Hid ((s.size<=200/\∀i (h:i<s.size),32<=(s[i].toNat:Int)/\(s[i].toNat:Int)<=126)->b=true):=j.2;clear j;by_cases m:s.size<=200
 .have l:(s.size:Int)<=200:=aa;go_enter func210,ntmps210;go_wp2_with fail
  go_loop [3] (λy=>∃k:Nat,k<=s.size/\y=ag k/\∀i (h:i<s.size),i<k->32<=(s[i].toNat:Int)/\(s[i].toNat:Int)<=126) (λy=>s.size-(intOf y).toNat)
  case atStart=>exact⟨0,aa,rfl,λi _ b=>aa⟩
  case round=>
   obtain⟨k,q,rfl,c⟩:=hrel;have f:=aF c;clear c;by_cases g:k<s.size
   .have n:(k:Int)<(s.size:Int):=aa;have r:=Fp s[k];by_cases t:(s[k].toNat:Int)<32
    .obtain rfl:=d.out (λh=>by have:=(h.2 k g).1;omega);clear d a f;go_wp2_with fail;go_ret;exact⟨rfl,rfl⟩
    .by_cases u:126<(s[k].toNat:Int)
     .obtain rfl:=d.out (λh=>by have:=(h.2 k g).2;omega);clear d a f;go_wp2_with fail;go_ret;exact⟨rfl,rfl⟩
     .have o:Hid (32<=(s[k].toNat:Int)/\(s[k].toNat:Int)<=126):=⟨aa,aa⟩;go_wp2_with fail
      go_round
      case rel=>exact⟨k+1,aa,by go_num,λi h b=>by
       by_cases e:i<k
       .exact f.out i h e
       .obtain rfl:i=k:=aa;exact o.out⟩
      case measure=>simp[intOf];omega
   .obtain rfl:=a.out ⟨m,λi h=>f.out i h aa⟩;clear d a f;have p:¬(k:Int)<(s.size:Int):=aa;go_wp2_with fail;go_ret;exact⟨rfl,rfl⟩
 .obtain rfl:=d.out (λh=>m h.1);clear d a;have l:200<(s.size:Int):=aa;go_enter func210,ntmps210;go_wp2_with fail;go_ret;exact⟨rfl,rfl⟩
def Lf (c:UInt8):aO:=if c=60 then⟨#[38,108,116,59]⟩ else if c=62 then⟨#[38,103,116,59]⟩ else if c=38 then⟨#[38,97,109,112,59]⟩ else if c=34 then⟨#[38,113,117,111,116,59]⟩ else⟨#[]⟩
theorem qY (c:UInt8)(w:ai):aL 224 #[.int .u8 c.toNat] w λe w'=>e=ay (au (Lf c))/\w'=w:=by
 have l:=Fp c;have a:c=60↔(c.toNat:Int)=60:=⟨λh=>((JL _ _).1 h).trans aC,λh=>(JL _ _).2 (h.trans aC)⟩;have b:c=62↔(c.toNat:Int)=62:=⟨λh=>((JL _ _).1 h).trans aC,λh=>(JL _ _).2 (h.trans aC)⟩;have d:c=38↔(c.toNat:Int)=38:=⟨λh=>((JL _ _).1 h).trans aC,λh=>(JL _ _).2 (h.trans aC)⟩;have f:c=34↔(c.toNat:Int)=34:=⟨λh=>((JL _ _).1 h).trans aC,λh=>(JL _ _).2 (h.trans aC)⟩;unfold Lf;simp only[a,b,d,f];clear a b d f;generalize (c.toNat:Int)=x at*;by_cases g:x=60
 .subst g;go_enter func224,ntmps224;go_wp2;go_ret;exact⟨rfl,rfl⟩
 .rw[aG g];by_cases i:x=62
  .subst i;go_enter func224,ntmps224;go_wp2;go_ret;exact⟨rfl,rfl⟩
  .rw[aG i];by_cases j:x=38
   .subst j;go_enter func224,ntmps224;go_wp2;go_ret;exact⟨rfl,rfl⟩
   .rw[aG j];by_cases k:x=34
    .subst k;go_enter func224,ntmps224;go_wp2;go_ret;exact⟨rfl,rfl⟩
    .rw[aG k];go_enter func224,ntmps224;go_wp2;go_ret;exact⟨rfl,rfl⟩
def jD (s:Bs):ax:=au ⟨s.toArray⟩
theorem iE (s:Bs):(⟨s.toArray⟩:aO).size=s.length:=by simp[ByteArray.size]
def Gy (w:ai)(o:Option Addr)(ats:List (Bs×Bs)):Prop:=∀i x,ats[i]? =some x->∃b a,o=some ⟨b,a,none⟩/\w.cell? (aJ b (a+i*2))=some (jD x.1)/\w.cell? (aJ b (a+i*2+1))=some (jD x.2)/\x.1.length<=maxLen/\x.2.length<=maxLen
def rU (w:ai)(v:ax)(ats:List (Bs×Bs)):Prop:=∃o a,v=aj o ats.length a/\ats.length<=a/\a<=maxLen/\(o=none->a=0)/\Gy w o ats
mutual
def sS (w:ai)(b c d:ax):Nd->Prop
 | .mk nm ats D=>b=jD nm/\nm.length<=maxLen/\rU w c ats/\∃o a,d=aj o D.length a/\D.length<=a/\a<=maxLen/\(o=none->a=0)/\nJ w o 0 D
def nJ (w:ai)(o:Option Addr)(i:Nat):List Nd->Prop
 |[]=>True
 |k::l=>(∃b a c d e,o=some ⟨b,a,none⟩/\w.cell? (aJ b (a+i*3))=some c/\w.cell? (aJ b (a+i*3+1))=some d/\w.cell? (aJ b (a+i*3+2))=some e/\sS w c d e k)/\nJ w o (i+1) l
end
theorem aM {w:ai}{a:Addr}{v:ax}(h:w.cell? a=some v):a.block<w.heap.size:=by
 rcases Nat.lt_or_ge a.block w.heap.size with b|b
 .exact b
 .simp[World.cell?,qK b] at h
theorem Gy.below {w w':ai}{o:Option Addr}(h:Gy w o ats)(c:aD w w'):Gy w' o ats:=λi x f=>by
 obtain⟨b,a,g,d,e,j⟩:=h i x f;exact⟨b,a,g,(c.cell (aM d)).trans d,(c.cell (aM e)).trans e,j⟩
theorem rU.below {w w':ai}{v:ax}(h:rU w v ats)(b:aD w w'):rU w' v ats:=by
 obtain⟨o,a,c,d,e,f,g⟩:=h;exact⟨o,a,c,d,e,f,g.below b⟩
mutual
theorem sS.below {w w':ai}(b:aD w w'):∀{c d e:ax} (n:Nd),sS w c d e n->sS w' c d e n
 |_,_,_,.mk _ _ D,h=>by
  unfold sS at h⊢;obtain⟨f,g,i,o,a,j,k,l,m,p⟩:=h;exact⟨f,g,i.below b,o,a,j,k,l,m,nJ.below b D p⟩
theorem nJ.below {w w':ai}(a:aD w w'):∀{o:Option Addr} {i:Nat} (l:List Nd),nJ w o i l->nJ w' o i l
 |_,_,[],_=>by unfold nJ;trivial
 |_,_,k::l,h=>by
  unfold nJ at h⊢;obtain⟨⟨b,c,g,j,m,n,d,e,f,p⟩,q⟩:=h;exact⟨⟨b,c,g,j,m,n,(a.cell (aM d)).trans d,(a.cell (aM e)).trans e,(a.cell (aM f)).trans f,sS.below a k p⟩,nJ.below a l q⟩
end
theorem nJ.get {w:ai}{o:Option Addr}:∀{l:List Nd} {i j:Nat} {k:Nd},nJ w o i l->l[j]? =some k->∃b off c d e,o=some ⟨b,off,none⟩/\w.cell? (aJ b (off+(i+j)*3))=some c/\w.cell? (aJ b (off+(i+j)*3+1))=some d/\w.cell? (aJ b (off+(i+j)*3+2))=some e/\sS w c d e k
 |[],_,_,_,_,a=>by simp at a
 |k::l,i,j,f,h,a=>by
  unfold nJ at h;cases j with
  |zero=>simp at a;subst a;exact h.1
  |succ j=>
   have:=nJ.get (i:=i+1) (j:=j) h.2 (by simpa using a);rw[show i+1+j=i+(j+1) from by omega] at this;exact this
theorem X4 {α:Type}{P:Nat->α->Prop}:∀(n:Nat),(∀i,i<n->∃x,P i x)->∃l:List α,l.length=n/\∀i x,l[i]? =some x->P i x
 |0,_=>⟨[],rfl,λi x h=>by simp at h⟩
 |n+1,h=>by
  obtain⟨l,c,hP⟩:=X4 n (λi b=>h i aa);obtain⟨x,d⟩:=h n aa;refine⟨l++[x],by simp[c],λi y a=>?_⟩;rcases Nat.lt_or_ge i n with b|b
  .rw[wu aa] at a;exact hP i y a
  .rw[pI aa] at a;have:i-l.length=0:=by
    rcases Nat.eq_zero_or_pos (i-l.length) with e|e
    .exact e
    .rw[BV bq] at a;cases a
   rw[this] at a;simp at a;subst a;obtain rfl:i=n:=aa;exact d
theorem Qk:prog.cellsOf 9=1:=aA
section
variable {H:Type}{enc:TypeId×ax->H}{w:ai}{F:Nat}{I:Nat->Bool}{J:Bool}
end
theorem dD:maxLen=9223372036854775807:=aC
def atV (x:Bs×Bs):ax:=.agg #[jD x.1,jD x.2]
theorem bf {W A w:ai}(h:aD W A)(a:aD A w):aD W w:=h.trans (a.mono h.size)
theorem eD {W:ai}{a:Addr}{v:ax}(o:Obj)(h:W.cell? a=some v):(W.alloc o).cell? a=some v:=(((aW W.heap.size W).alloc az o).cell (aM h)).trans h
theorem MX (x:Bs×Bs)(nm:Bs)(B:Nat)(W:ai)(a:W.cell? (aJ B 0)=some (jD nm)):
  aL 246 #[atV x,aK B] W λe w'=>e=ay (.bool (x.1==nm))/\aD W w':=by
 have b:=λo=>eD o a;unfold atV jD at*;go_enter func246,ntmps246;go_wp2;go_ret;exact⟨rfl,(aW _ W).alloc az _⟩
def fI (nm:Bs):Nat->List (Bs×Bs)->Int
 |_,[]=> -1
 |k,x::r=>if(x.1==nm)=true then k else fI nm (k+1) r
theorem a2i (nm:Bs):∀(l:List (Bs×Bs)) (k:Nat),decide (0<=fI nm k l)=l.any (λx=>x.1==nm)
 |[],_=>rfl
 |x::r,k=>by
  unfold fI;cases a:(x.1==nm) with
  |true=>simp[a]
  |false=>simp only[Bool.false_eq_true,if_false,List.any_cons,a,Bool.false_or];exact a2i nm r (k+1)
theorem drop_at {α:Type}{l:List α}{k:Nat}(h:k<l.length):∃x,l[k]? =some x/\l.drop k=x::l.drop (k+1):=⟨l[k],fD h,(List.getElem_cons_drop h).symm⟩
theorem JM (ats:List (Bs×Bs))(nm:Bs)(B:Nat)(v:ax)(W:ai)(h:rU W v ats)(t:W.cell? (aJ B 0)=some (jD nm)):
  aL 277 #[v,.func (.func 246) #[] #[aK B]] W λe w'=>e=ay (ag (fI nm 0 ats))/\aD W w':=by
 obtain⟨o,E,rfl,O,F,H,m⟩:=h;have u:(ats.length:Int)<=9223372036854775807:=by rw[dD] at F;omega
 by_cases I:ats.length=0
 .obtain rfl:ats=[]:=lu.1 I;clear m;go_enter func277,ntmps277;go_wp2_with fail
  go_loopw [8] (λy wr=>y=ag 0/\wr=W) (λ_ _=>0)
  case atStart=>exact⟨rfl,rfl⟩
  case round=>
   obtain⟨rfl,rfl⟩:=hrel;go_wp2_with fail;go_ret;exact⟨rfl,aW _ _⟩
 .obtain⟨w,i, -⟩:=drop_at (l:=ats) (k:=0) aa;obtain⟨b,J,rfl, -⟩:=m 0 w i;have K:=aF m;clear m i H w;go_enter func277,ntmps277;go_wp2_with fail
  go_loopw [8] (λy wr=>∃k:Nat,k<=ats.length/\y=ag k/\fI nm 0 ats=fI nm k (ats.drop k)/\aD W wr) (λy _=>ats.length-(intOf y).toNat)
  case atStart=>exact⟨0,bA _,rfl,rfl,aW _ _⟩
  case round=>
   obtain⟨k,P,rfl,c,f⟩:=hrel;by_cases p:k<ats.length
   .have z:(k:Int)<(ats.length:Int):=aa;obtain⟨x,A,C⟩:=drop_at p;obtain⟨Q,D,e,q,r, -⟩:=K.out k x A;simp only[Option.some.injEq,Addr.mk.injEq,and_true] at e;obtain⟨rfl,rfl⟩:=e;have L:=(f.cell (aM q)).trans q;have M:=(f.cell (aM r)).trans r;have s:=(f.cell (aM t)).trans t;have n:=MX x nm B wr s;rw[C] at c;clear q r A C;unfold jD at L M;cases g:(x.1==nm) with
    |true=>
     rw[g] at n;have a:Hid (fI nm 0 ats=k):=(by rw[c];unfold fI;rw[aR g]:fI nm 0 ats=k);clear c g;go_wp2_with(go_at_call 246;refine n.mono ?_;rintro e N ⟨rfl,d⟩);go_ret;exact⟨by rw[a.out];rfl,bf f d⟩
    |false=>
     rw[g] at n;have j:fI nm k (x::ats.drop (k+1))=fI nm (k+1) (ats.drop (k+1)):=by rw[fI,aG (by rw[g];simp)]
     have a:Hid (fI nm 0 ats=fI nm (k+1) (ats.drop (k+1))):=c.trans j;clear j;clear c g;go_wp2_with(go_at_call 246;refine n.mono ?_;rintro e N ⟨rfl,d⟩)
     go_roundw
     case rel=>exact⟨k+1,aa,by go_num,a.out,bf f d⟩
     case measure=>simp[intOf];omega
   .obtain rfl:k=ats.length:=aa;have a:Hid (fI nm 0 ats= -1):=(by rw[c,List.drop_length];rfl:fI nm 0 ats= -1);clear c;go_wp2_with fail;go_ret;exact⟨by rw[a.out];rfl,f⟩
theorem Cm (ats:List (Bs×Bs))(nm:Bs)(B:Nat)(v:ax)(W:ai)(h:rU W v ats)(c:W.cell? (aJ B 0)=some (jD nm)):
  aL 245 #[v,.func (.func 246) #[] #[aK B]] W λe w'=>e=ay (.bool (ats.any (λx=>x.1==nm)))/\aD W w':=by
 have b:=JM ats nm B v W h c;rw[<- a2i nm ats 0];generalize fI nm 0 ats=z at b⊢;go_enter func245,ntmps245;go_wp2_with(go_at_call 277;refine b.mono ?_;rintro e d ⟨rfl,a⟩);go_ret;exact⟨rfl,a⟩
structure CE (E:Nat->Addr)(w:ai):Prop where
 c4:w.cell? (aJ 3 0)=some (aU 453 (.pointer (some (E 4))))
 c6:w.cell? (aJ 5 0)=some (aU 453 (.pointer (some (E 6))))
 c7:w.cell? (aJ 6 0)=some (aU 453 (.pointer (some (E 7))))
 c8:w.cell? (aJ 7 0)=some (aU 453 (.pointer (some (E 8))))
 c10:w.cell? (aJ 9 0)=some (aU 453 (.pointer (some (E 10))))
theorem CE.below {E:Nat->Addr}{w w':ai}(h:CE E w)(a:aD w w'):CE E w' where
 c4:=(a.cell (aM h.c4)).trans h.c4
 c6:=(a.cell (aM h.c6)).trans h.c6
 c7:=(a.cell (aM h.c7)).trans h.c7
 c8:=(a.cell (aM h.c8)).trans h.c8
 c10:=(a.cell (aM h.c10)).trans h.c10
structure ME (E:Nat->Addr)(w:ai):Prop where
 c2:w.cell? (aJ 0 0)=some (aU 453 (.pointer (some (E 2))))
 c4:w.cell? (aJ 3 0)=some (aU 453 (.pointer (some (E 4))))
 c6:w.cell? (aJ 5 0)=some (aU 453 (.pointer (some (E 6))))
 c7:w.cell? (aJ 6 0)=some (aU 453 (.pointer (some (E 7))))
 c8:w.cell? (aJ 7 0)=some (aU 453 (.pointer (some (E 8))))
 c10:w.cell? (aJ 9 0)=some (aU 453 (.pointer (some (E 10))))
theorem ME.below {E:Nat->Addr}{w w':ai}(h:ME E w)(a:aD w w'):ME E w' where
 c2:=(a.cell (aM h.c2)).trans h.c2
 c4:=(a.cell (aM h.c4)).trans h.c4
 c6:=(a.cell (aM h.c6)).trans h.c6
 c7:=(a.cell (aM h.c7)).trans h.c7
 c8:=(a.cell (aM h.c8)).trans h.c8
 c10:=(a.cell (aM h.c10)).trans h.c10
theorem ME.ce {E:Nat->Addr}{w:ai}(h:ME E w):CE E w:=⟨h.c4,h.c6,h.c7,h.c8,h.c10⟩
def YV (E:Nat->Addr)(c:Nat):ax:=if c=0 then aY else aU 453 (.pointer (some (E c)))
theorem xN (E:Nat->Addr):YV E 0=aY:=rfl
theorem lU (E:Nat->Addr){c:Nat}(h:c≠0):YV E c=aU 453 (.pointer (some (E c))):=by unfold YV;rw[aG h]
def Um (ahead:List (Bs×Bs))(a:Bs×Bs):Nat:=if iQ a.1=true then(if ahead.any (λx=>x.1==a.1)=true then 6 else if isVal a.2=true then 0 else 10) else 4
theorem dR (W:ai)(o:Obj):aD W (W.alloc o):=(aW W.heap.size W).alloc az o
theorem kJ (W:ai)(cs:Array ax)(t:TypeId)(i:Nat)(v:ax)(h:cs[i]? =some v):(W.alloc (ak cs t)).cell? ⟨W.heap.size,i,none⟩=some v:=by
 have e:(W.alloc (ak cs t)).heap[W.heap.size]? =some (ak cs t):=by show(W.heap.push (ak cs t))[W.heap.size]? =_;simp
 unfold World.cell?;grind
theorem yN (E:Nat->Addr)(a:Bs×Bs)(ats:List (Bs×Bs))(v:ax)(W:ai)(hE:CE E W)(h:rU W v ats)(r:a.1.length<=maxLen)(s:a.2.length<=maxLen):
  aL 178 #[atV a,v] W λe w'=>e=ay (YV E (Um ats a))/\aD W w':=by
 have d:=dR W (ak #[au ⟨a.1.toArray⟩,au ⟨a.2.toArray⟩] 145);have t:=kJ W #[au ⟨a.1.toArray⟩,au ⟨a.2.toArray⟩] 145 0 _ rfl;have f:=kJ W #[au ⟨a.1.toArray⟩,au ⟨a.2.toArray⟩] 145 1 _ rfl;have g:=jK ⟨a.1.toArray⟩ (by rw[iE,<- dD];exact r) (W.alloc (ak #[au ⟨a.1.toArray⟩,au ⟨a.2.toArray⟩] 145));have i:=Cm ats a.1 W.heap.size v _ (h.below d) t;have j:=λV=>DZ ⟨a.2.toArray⟩ (by rw[iE,<- dD];exact s) V;have c:=hE.below d;obtain⟨o,u,rfl,_,_,_,_⟩:=h;have k:=c.c4;unfold Um;unfold atV jD;cases m:iQ a.1 with
 |false=>
  rw[show iQ (⟨a.1.toArray⟩:aO).data.toList=false from m] at g;rw[aG aI,lU E aC];clear i j f;go_enter func178,ntmps178;go_wp2_with(go_at_call 177;refine g.mono ?_;rintro e l ⟨rfl,rfl⟩);go_ret;exact⟨rfl,d⟩
 |true=>
  rw[show iQ (⟨a.1.toArray⟩:aO).data.toList=true from m] at g;rw[aR rfl];cases n:ats.any (λx=>x.1==a.1) with
  |true=>
   rw[n] at i;rw[aR rfl,lU E aC];clear j f k;go_enter func178,ntmps178;go_wp2_with(first|(go_at_call 177;refine g.mono ?_;rintro e l ⟨rfl,rfl⟩)|(go_at_call 245;refine i.mono ?_;rintro e p ⟨rfl,b⟩;have A:=(c.below b).c6));go_ret;exact⟨rfl,bf d b⟩
  |false=>
   rw[n] at i;rw[aG aI];cases q:isVal a.2 with
   |true=>
    rw[show isVal (⟨a.2.toArray⟩:aO).data.toList=true from q] at j;rw[aR rfl,xN];clear k;go_enter func178,ntmps178;go_wp2_with(first|(go_at_call 177;refine g.mono ?_;rintro e l ⟨rfl,rfl⟩)|(go_at_call 245;refine i.mono ?_;rintro e p ⟨rfl,b⟩;have w:=(b.cell (aM f)).trans f)|(go_at_call 210;refine(j _).mono ?_;rintro e y ⟨rfl,rfl⟩));go_ret;exact⟨rfl,bf d b⟩
   |false=>
    rw[show isVal (⟨a.2.toArray⟩:aO).data.toList=false from q] at j;rw[aG aI,lU E aC];clear k;go_enter func178,ntmps178;go_wp2_with(first|(go_at_call 177;refine g.mono ?_;rintro e l ⟨rfl,rfl⟩)|(go_at_call 245;refine i.mono ?_;rintro e p ⟨rfl,b⟩;have w:=(b.cell (aM f)).trans f;have z:=(c.below b).c10)|(go_at_call 210;refine(j _).mono ?_;rintro e y ⟨rfl,rfl⟩));go_ret;exact⟨rfl,bf d b⟩
set_option maxRecDepth 20000
def EK:List (Bs×Bs)->List (Bs×Bs)->Nat
 |_,[]=>0
 |pre,a::r=>if Um pre a=0 then EK (pre++[a]) r else Um pre a
def ck1 (nm:Bs)(ats:List (Bs×Bs))(a ahead:Nat):Nat:=if 10<a then 8 else if 100<=ahead then 7 else if iQ nm=true then(if 12<ats.length then 7 else EK [] ats) else 4
theorem a2j {k:Nat}{x:Bs×Bs}(a:ats[k]? =some x)(b:ats.drop k=x::ats.drop (k+1))(h:Um (ats.take k) x=0):EK (ats.take k) (ats.drop k)=EK (ats.take (k+1)) (ats.drop (k+1)):=by
 rw[b,EK,aR h,eX,a];rfl
theorem rU.take {w:ai}{b off a:Nat}(k:Nat)(d:k<=ats.length)(hc:ats.length<=a)(f:a<=maxLen)(h:Gy w (some ⟨b,off,none⟩) ats):rU w (aj (some ⟨b,off,none⟩) k a) (ats.take k):=
 ⟨some ⟨b,off,none⟩,a,by rw[iR,Nat.min_eq_left d],by rw[iR];omega,f,(λe=>nomatch e),λi x c=>h i x (by rw[zg] at c;split at c;exact c;cases c)⟩
theorem YW (E:Nat->Addr)(nm:Bs)(ats:List (Bs×Bs))(r s a b off:Nat)(t:Option Addr)(l ahead:Nat)(W:ai)(hE:CE E W)(h4:Gy W (some ⟨b,off,none⟩) ats)(hc:ats.length<=a)(hm:a<=maxLen)(hl:nm.length<=maxLen)
  (hd:l<=10) (ha:ahead<100) (hn:iQ nm=true) (a6:ats.length<=12):
  aL 118 #[.agg #[jD nm,aj (some ⟨b,off,none⟩) ats.length a,aj t r s],ag l,ag ahead] W λe w'=>e=ay (YV E (EK [] ats))/\aD W w':=by
 have I:=dR W (ak #[au ⟨nm.toArray⟩,aj (some ⟨b,off,none⟩) ats.length a,aj t r s] 50);have n0:=kJ W #[au ⟨nm.toArray⟩,aj (some ⟨b,off,none⟩) ats.length a,aj t r s] 50 0 (au ⟨nm.toArray⟩) rfl;have J:=kJ W #[au ⟨nm.toArray⟩,aj (some ⟨b,off,none⟩) ats.length a,aj t r s] 50 1 (aj (some ⟨b,off,none⟩) ats.length a) rfl;have K:=jK ⟨nm.toArray⟩ (by rw[iE,<- dD];exact hl) (W.alloc (ak #[au ⟨nm.toArray⟩,aj (some ⟨b,off,none⟩) ats.length a,aj t r s] 50));rw[show iQ (⟨nm.toArray⟩:aO).data.toList=true from hn] at K;have L:=aF h4;have HE:=aF hE;clear h4 hE hn;unfold jD;go_enter func118,ntmps118;go_wp2_with(go_at_call 177;refine K.mono ?_;rintro e w1 ⟨rfl,rfl⟩);clear K;obtain⟨W1,v⟩:∃V,W.alloc (ak #[au ⟨nm.toArray⟩,aj (some ⟨b,off,none⟩) ats.length a,aj t r s] 50)=V:=⟨_,rfl⟩;rw[v] at I n0 J⊢;clear v
 go_loopw [33] (λy wr=>∃k:Nat,k<=ats.length/\y=ag k/\EK [] ats=EK (ats.take k) (ats.drop k)/\aD W1 wr) (λy _=>ats.length-(intOf y).toNat)
 case atStart=>exact⟨0,bA _,rfl,rfl,aW _ _⟩
 case round=>
  obtain⟨k,hk,rfl,hf,F⟩:=hrel;have M:=aF hf;clear hf;by_cases N:k<ats.length
  .have a4:(k:Int)<(ats.length:Int):=aa;have a7:(k:Int)<=(a:Int):=aa;obtain⟨x,O,w⟩:=drop_at N;obtain⟨b',a5,e,P,Q,R,S⟩:=L.out k x O;simp only[Option.some.injEq,Addr.mk.injEq,and_true] at e;obtain⟨rfl,rfl⟩:=e;have m:=bf I F;have k0:=(m.cell (aM P)).trans P;have k1:=(m.cell (aM Q)).trans Q;have m1:=(F.cell (aM J)).trans J;clear P Q;unfold jD at k0 k1;have T:Hid (ats[k]? =some x/\ats.drop k=x::ats.drop (k+1)):=⟨O,w⟩;clear O w;have A:=kJ wr #[au ⟨x.1.toArray⟩,au ⟨x.2.toArray⟩] 145 0 (au ⟨x.1.toArray⟩) rfl;have B:=kJ wr #[au ⟨x.1.toArray⟩,au ⟨x.2.toArray⟩] 145 1 (au ⟨x.2.toArray⟩) rfl;have C:=eD (ak #[au ⟨x.1.toArray⟩,au ⟨x.2.toArray⟩] 145) m1;have n:=dR wr (ak #[au ⟨x.1.toArray⟩,au ⟨x.2.toArray⟩] 145);go_upto_region 12 with fail;obtain⟨U,hU⟩:∃V,wr.alloc (ak #[au ⟨x.1.toArray⟩,au ⟨x.2.toArray⟩] 145)=V:=⟨_,rfl⟩;rw[hU] at A B C n⊢;clear hU k0 k1 m1;have g:=R;have h:=S;by_cases i:Um (ats.take k) x=0
   .have u:∀d c,aL 178 #[.agg #[au ⟨x.1.toArray⟩,au ⟨x.2.toArray⟩],aj (some ⟨b,off,none⟩) k a] (Go.Sort.grow (redrawn U d) c) λe o=>e=ay aY/\∃p:Regrown,o=Go.Sort.grow (redrawn U p.d) p.os:=λd c=>by
     have:=yN E x (ats.take k) (aj (some ⟨b,off,none⟩) k a) (Go.Sort.grow (redrawn U d) c) (HE.out.below (bf (bf m n) (below_regrown U d c))) (rU.take k hk hc hm (L.out.below (bf (bf m n) (below_regrown U d c)))) g h;rw[i,xN] at this;exact Calls.regrown_of this
    have H:Hid (EK [] ats=EK (ats.take (k+1)) (ats.drop (k+1))):=M.out.trans (a2j T.out.1 T.out.2 i);clear i R S g h;have X:=cell_regrown A;have Y:=cell_regrown B;have Z:=cell_regrown C;refine wp_region_quiet_below aA aA ?_
    repeat(quiet_step (first|(go_at_call 178;exact u _ _)))
    refine wpQuiet_nil ?_;intro _ q;obtain⟨j,f⟩:=q;subst f;clear X Y Z u A B C;have D:=bf (bf F n) (below_regrown U j.d j.os);generalize Go.Sort.grow (redrawn U j.d) j.os=V at D⊢;go_wp2_with fail
    go_roundw
    case rel=>exact⟨k+1,aa,by go_num,H.out,D⟩
    case measure=>simp[intOf];omega
   .have u:∀d c,aL 178 #[.agg #[au ⟨x.1.toArray⟩,au ⟨x.2.toArray⟩],aj (some ⟨b,off,none⟩) k a] (Go.Sort.grow (redrawn U d) c) λe o=>e=ay (aU 453 (.pointer (some (E (Um (ats.take k) x)))))/\∃p:Regrown,o=Go.Sort.grow (redrawn U p.d) p.os:=λd c=>by
     have:=yN E x (ats.take k) (aj (some ⟨b,off,none⟩) k a) (Go.Sort.grow (redrawn U d) c) (HE.out.below (bf (bf m n) (below_regrown U d c))) (rU.take k hk hc hm (L.out.below (bf (bf m n) (below_regrown U d c)))) g h;rw[lU E i] at this;exact Calls.regrown_of this
    have H:Hid (EK [] ats=Um (ats.take k) x):=(by rw[M.out,T.out.2,EK,aG i]:EK [] ats=Um (ats.take k) x);have HP:=aF i;clear i R S g h;generalize Um (ats.take k) x=z at u H HP;have X:=cell_regrown A;have Y:=cell_regrown B;have Z:=cell_regrown C;refine wp_region_quiet_below aA aA ?_
    repeat(quiet_step (first|(go_at_call 178;exact u _ _)))
    refine wpQuiet_nil ?_;intro _ q;obtain⟨j,f⟩:=q;subst f;clear X Y Z u A B C;have D:=bf (bf m n) (below_regrown U j.d j.os);generalize Go.Sort.grow (redrawn U j.d) j.os=V at D⊢;go_wp2_with fail;go_ret;exact⟨by rw[H.out,lU E HP.out];rfl,D⟩
  .obtain rfl:k=ats.length:=aa;have i:Hid (EK [] ats=0):=(by rw[M.out,List.drop_length];rfl:EK [] ats=0);go_wp2_with fail;go_ret;exact⟨by rw[i.out];rfl,bf I F⟩
theorem MZ (E:Nat->Addr)(nm:Bs)(ats:List (Bs×Bs))(D:List Nd)(w x:ax)(a ahead:Nat)(W:ai)(hE:CE E W)(h:sS W (jD nm) w x (.mk nm ats D))(J:a<=1000)(K:ahead<=1000):
  aL 118 #[.agg #[jD nm,w,x],ag a,ag ahead] W λe w'=>e=ay (YV E (ck1 nm ats a ahead))/\aD W w':=by
 unfold sS at h;obtain⟨-,z,⟨o,c,rfl,L,A,R,n⟩,i,j,rfl, -⟩:=h;generalize D.length=m;have g:=dR W (ak #[au ⟨nm.toArray⟩,aj o ats.length c,aj i m j] 50);have B:=kJ W #[au ⟨nm.toArray⟩,aj o ats.length c,aj i m j] 50 0 (au ⟨nm.toArray⟩) rfl;have p:=kJ W #[au ⟨nm.toArray⟩,aj o ats.length c,aj i m j] 50 1 (aj o ats.length c) rfl;have f:=jK ⟨nm.toArray⟩ (by rw[iE,<- dD];exact z) (W.alloc (ak #[au ⟨nm.toArray⟩,aj o ats.length c,aj i m j] 50));have d:=hE.below g;have q:(ats.length:Int)<=9223372036854775807:=by rw[dD] at A;omega
 unfold ck1;by_cases C:10<a
 .rw[aR C,lU E aC];have r:10<(a:Int):=aa;have S:=d.c8;clear f p B;unfold jD;go_enter func118,ntmps118;go_wp2_with fail;go_ret;exact⟨rfl,g⟩
 .rw[aG C];have r:(a:Int)<=10:=aa;by_cases F:100<=ahead
  .rw[aR F,lU E aC];have s:100<=(ahead:Int):=aa;have M:=d.c7;clear f p B;unfold jD;go_enter func118,ntmps118;go_wp2_with fail;go_ret;exact⟨rfl,g⟩
  .rw[aG F];have s:(ahead:Int)<100:=aa;cases t:iQ nm with
   |false=>
    rw[show iQ (⟨nm.toArray⟩:aO).data.toList=false from t] at f;rw[aG aI,lU E aC];have T:=d.c4;clear p;unfold jD;go_enter func118,ntmps118;go_wp2_with(go_at_call 177;refine f.mono ?_;rintro e H ⟨rfl,rfl⟩);go_ret;exact⟨rfl,g⟩
   |true=>
    rw[show iQ (⟨nm.toArray⟩:aO).data.toList=true from t] at f;rw[aR rfl];by_cases I:12<ats.length
    .rw[aR I,lU E aC];have N:12<(ats.length:Int):=aa;have M:=d.c7;unfold jD;go_enter func118,ntmps118;go_wp2_with(go_at_call 177;refine f.mono ?_;rintro e H ⟨rfl,rfl⟩);go_ret;exact⟨rfl,g⟩
    .rw[aG I];by_cases O:ats.length=0
     .obtain rfl:ats=[]:=lu.1 O;rw[show EK [] []=0 from rfl,xN];clear n q;unfold jD;go_enter func118,ntmps118;go_wp2_with(go_at_call 177;refine f.mono ?_;rintro e H ⟨rfl,rfl⟩)
      go_loopw [33] (λy wr=>y=ag 0/\aD W wr) (λ_ _=>0)
      case atStart=>exact⟨rfl,g⟩
      case round=>
       obtain⟨rfl,P⟩:=hrel;go_wp2_with fail;go_ret;exact⟨rfl,P⟩
     .obtain⟨Q,u, -⟩:=drop_at (l:=ats) (k:=0) aa;obtain⟨b,v,rfl, -⟩:=n 0 Q u;exact YW E nm ats m j c b v i a ahead W hE n L A z aa aa t aa
structure eG (b:Nat)(W w:ai):Prop where
 os:w.os=W.os
 tape:w.tape=W.tape
 output:w.output=W.output
 size:W.heap.size<=w.heap.size
 block:∀k,k<W.heap.size->k≠b->w.heap[k]? =W.heap[k]?
theorem eG.trans {b:Nat}{A B C:ai}(h:eG b A B)(k:eG b B C):eG b A C:=
 ⟨k.os.trans h.os,k.tape.trans h.tape,k.output.trans h.output,bO h.size k.size,λi a c=>(k.block i (fK a h.size) c).trans (h.block i a c)⟩
theorem eG.of_below {b:Nat}{A B:ai}(h:aD A B):eG b A B:=⟨h.os,h.tape,h.output,h.size,λi a _=>h.block i a⟩
theorem eG.below {b n:Nat}{A B:ai}(h:eG b A B)(a:n<=b)(c:n<=A.heap.size):Below n A B:=⟨h.os,h.tape,h.output,h.size,λi d=>h.block i aa aa⟩
theorem eG.setCell {b:Nat}{A B:ai}(h:eG b A B)(v:ax):eG b A (B.setCell ⟨b,0,none⟩ v):=by
 have a:=(aW b B).setCell (p:=⟨b,0,none⟩) az v;refine⟨a.os.trans h.os,a.tape.trans h.tape,a.output.trans h.output,bO h.size a.size,λi d c=>?_⟩;exact(dw _ _ _ i c).trans (h.block i d c)
theorem eG.cell {b:Nat}{A B:ai}(h:eG b A B){p:Addr}{v:ax}(hp:A.cell? p=some v)(a:p.block≠b):B.cell? p=some v:=by
 rw[<- hp];unfold World.cell?;rw[h.block p.block (aM hp) a]
theorem X5 {B:Nat}{w w':ai}{p:Addr}(a:Below B w w')(hp:p.block<B):w'.frozen? p=w.frozen? p:=by
 unfold World.frozen?;rw[a.block _ hp]
theorem ajw {w:ai}{b:Nat}{u v:ax}(h:w.cell? (aJ b 0)=some u):(w.setCell ⟨b,0,none⟩ v).cell? (aJ b 0)=some v:=by
 exact World.cell?_setCell_same w _ v h
theorem YX {w:ai}{b:Nat}{v:ax}(h:w.frozen? ⟨b,0,none⟩=false):(w.setCell ⟨b,0,none⟩ v).frozen? ⟨b,0,none⟩=false:=by
 have:=jT w ⟨b,0,none⟩ ⟨b,0,none⟩ v;grind
theorem Nd.ind {P:Nd->Prop}(h:∀nm ats D,(∀k∈D,P k)->P (.mk nm ats D)):∀n,P n:=by
 suffices H:(∀n,P n) by exact H
 intro n;exact Nd.rec (motive_1:=P) (motive_2:=λl=>∀k∈l,P k) (λnm ats D a=>h nm ats D a) aI (λk l b c=>by grind) n
mutual
def je:Nd->Nat->Nat->Nat×Nat
 | .mk nm ats D,a,ahead=>if ck1 nm ats a ahead=0 then uQ D (a+1) (ahead+1) else(ck1 nm ats a ahead,ahead)
def uQ:List Nd->Nat->Nat->Nat×Nat
 |[],_,ahead=>(0,ahead)
 |k::l,a,ahead=>if(je k a ahead).1=0 then uQ l a (je k a ahead).2 else je k a ahead
end
theorem Gz {a ahead:Nat}(h:ck1 nm ats a ahead=0):a<=10/\ahead<100:=by
 unfold ck1 at h;grind
mutual
theorem GA:∀(n:Nd) (a ahead:Nat),(je n a ahead).1=0->(je n a ahead).2<=100
 | .mk nm ats D,a,ahead,h=>by
  unfold je at h⊢;split at h
  .rename_i b;rw[aR b];exact a2k D _ _ (Gz b).2 h
  .rename_i b;omega
theorem a2k:∀(l:List Nd) (a ahead:Nat),ahead<=100->(uQ l a ahead).1=0->(uQ l a ahead).2<=100
 |[],a,ahead,c,_=>by unfold uQ;exact c
 |k::l,a,ahead,c,h=>by
  unfold uQ at h⊢;split at h
  .rename_i b;rw[aR b];exact a2k l _ _ (GA k _ _ b) h
  .rename_i b;omega
end
theorem GD {a ahead:Nat}(h:ck1 nm ats a ahead=0):je (.mk nm ats D) a ahead=uQ D (a+1) (ahead+1):=by rw[je,aR h]
theorem tQ {k:Nd}{l:List Nd}{a ahead:Nat}(h:(je k a ahead).1=0):uQ (k::l) a ahead=uQ l a (je k a ahead).2:=by rw[uQ,aR h]
theorem Az {k:Nd}{l:List Nd}{a ahead:Nat}(h:(je k a ahead).1≠0):uQ (k::l) a ahead=je k a ahead:=by rw[uQ,aG h]
def Flt (E:Nat->Addr)(B:Nat)(r:Nat×Nat)(e:Ending)(w:ai):Prop:=∃a,B<=a/\e=ay (aU 67 (aK a))/\w.cell? (aJ a 0)=some (ag r.2)/\w.cell? (aJ a 1)=some (aU 453 (.pointer (some (E r.1))))
def Chk (E:Nat->Addr)(f:ai)(b d:Nat)(n:Nd):Prop:=∀(g h i:ax) (a ahead:Nat) (W:ai),sS f g h i n->a<=11->ahead<=100->aD f W->
 W.cell? (aJ b 0)=some (ag ahead)->W.frozen? ⟨b,0,none⟩=false->W.cell? (aJ d 0)=some (.func (.func 117) #[] #[aK b,aK d])->
 aL 117 #[.agg #[g,h,i],ag a,aK b,aK d] W λe c=>eG b W c/\
  (((je n a ahead).1=0/\e=ay aY/\c.cell? (aJ b 0)=some (ag (je n a ahead).2)/\c.frozen? ⟨b,0,none⟩=false)\/((je n a ahead).1≠0/\Flt E W.heap.size (je n a ahead) e c))
theorem a6P (E:Nat->Addr)(L:ai)(l PW:Nat)(hE:CE E L)(hA:L.heap.size<=l)(hne:PW≠l):∀n,Chk E L l PW n:=by
 refine Nd.ind λnm ats D ih=>?_;intro c0 c1 c2 c ahead W hn hd ha M cA fA cP;have N:=hn;unfold sS at N;obtain⟨rfl,hl,⟨o1,iC,rfl,_,_,_,_⟩,O,P,rfl,c7,b1,c8,C⟩:=N;have HO:=MZ E nm ats D (aj o1 ats.length iC) (aj O D.length P) c ahead;have w:=dR W (ak #[au ⟨nm.toArray⟩,aj o1 ats.length iC,aj O D.length P] 50);have n0:=kJ W #[au ⟨nm.toArray⟩,aj o1 ats.length iC,aj O D.length P] 50 0 (au ⟨nm.toArray⟩) rfl;have n2:=kJ W #[au ⟨nm.toArray⟩,aj o1 ats.length iC,aj O D.length P] 50 2 (aj O D.length P) rfl;have m:=(w.cell (aM cA)).trans cA;have bW:=M.trans (w.mono M.size);have o:=HO _ ((hE.below bW)) (sS.below bW (.mk nm ats D) hn) aa aa;clear HO;unfold jD at*;have Q:=aM cA;have b2:=aM cP;simp only at Q b2;by_cases j:ck1 nm ats c ahead=0
 .rw[j,xN] at o;have R:je (.mk nm ats D) c ahead=uQ D (c+1) (ahead+1):=GD j;rw[R];obtain⟨c9,d3⟩:=Gz j;clear R j;have S:=(X5 w (p:=⟨l,0,none⟩) Q).trans fA;have F:=(w.cell (aM cP)).trans cP;have d4:(D.length:Int)<=9223372036854775807:=by rw[dD] at b1;omega
  have b3:=aF C;have IH:=aF ih;clear C ih;go_enter func117,ntmps117;go_wp2_with(go_at_call 118;refine o.mono ?_;rintro e x ⟨rfl,g⟩;have H:=(g.cell (aM m)).trans m;have T:=(X5 g (p:=⟨l,0,none⟩) (aM m)).trans S;have U:=(g.cell (aM F)).trans F;have m2:=(g.cell (aM n2)).trans n2);have X:eG l W (x.setCell ⟨l,0,none⟩ (ag ((ahead:Int)+1))):=((eG.of_below w).trans (eG.of_below g)).setCell _;have Y:=ajw (v:=ag ((ahead:Int)+1)) H;have Z:=YX (v:=ag ((ahead:Int)+1)) T;have a4:=eG.cell ((eG.of_below (aW _ x)).setCell (b:=l) (ag ((ahead:Int)+1))) U hne;clear o m H S T F U m2 n2 n0 g w bW;obtain⟨V,hV⟩:∃V,x.setCell ⟨l,0,none⟩ (ag ((ahead:Int)+1))=V:=⟨_,rfl⟩;rw[hV] at X Y Z a4⊢;clear hV;have bV:aD L V:=M.trans (X.below hA M.size);have sV:=X.size
  go_loopw [27] (λy wr=>∃k a:Nat,k<=D.length/\y=ag k/\uQ D (c+1) (ahead+1)=uQ (D.drop k) (c+1) a/\a<=100/\eG l V wr/\wr.cell? (aJ l 0)=some (ag a)/\wr.frozen? ⟨l,0,none⟩=false) (λy _=>D.length-(intOf y).toNat)
  case atStart=>exact⟨0,ahead+1,bA _,rfl,rfl,aa,eG.of_below (aW _ _),by rw[Y];simp,Z⟩
  case round=>
   obtain⟨k,a,hk,rfl,hf,b4,J,I,a5⟩:=hrel;have HF:=aF hf;clear hf;have b5:=J.cell a4 hne;have bR:aD L wr:=bV.trans (J.below hA (bO M.size sV));by_cases b6:k<D.length
   .have c5:(k:Int)<(D.length:Int):=aa;obtain⟨kid,hx,a6⟩:=drop_at b6;obtain⟨b',c6,d0,d1,d2,rfl,e0,e1,e2,tV⟩:=b3.out.get hx;rw[gq] at e0 e1 e2;have z:kid∈D:=ic hx;have HI:=IH.out kid z;have E5:=tV;obtain⟨q,s,f⟩:=kid;unfold sS at E5;obtain⟨rfl, -,⟨t,d,rfl, -⟩,i,u,rfl, -⟩:=E5;have k0:=(bR.cell (aM e0)).trans e0;have k1:=(bR.cell (aM e1)).trans e1;have k2:=(bR.cell (aM e2)).trans e2;unfold jD at k0 k1 k2 tV;clear e0 e1 e2 z;have bU:=dR wr (ak #[au ⟨q.toArray⟩,aj t s.length d,aj i f.length u] 50);have u0:=kJ wr #[au ⟨q.toArray⟩,aj t s.length d,aj i f.length u] 50 0 (au ⟨q.toArray⟩) rfl;have u1:=kJ wr #[au ⟨q.toArray⟩,aj t s.length d,aj i f.length u] 50 1 (aj t s.length d) rfl;have u2:=kJ wr #[au ⟨q.toArray⟩,aj t s.length d,aj i f.length u] 50 2 (aj i f.length u) rfl;have a7:=eD (ak #[au ⟨q.toArray⟩,aj t s.length d,aj i f.length u] 50) I;have b7:=eD (ak #[au ⟨q.toArray⟩,aj t s.length d,aj i f.length u] 50) b5;have a8:=(X5 bU (p:=⟨l,0,none⟩) (aM I)).trans a5;have K:=HI _ _ _ (c+1) a _ tV aa b4 (bR.trans (bU.mono bR.size)) a7 a8 b7;rw[show((c+1:Nat):Int)=(c:Int)+1 from by omega] at K;clear HI tV a7 a8;have HD:=aF a6;clear a6 hx;generalize Nd.mk q s f=kid at K HD;by_cases j:(je kid (c+1) a).1=0
    .have b8:=K.mono (R':=λe A=>e=ay aY/\eG l (wr.alloc (ak #[au ⟨q.toArray⟩,aj t s.length d,aj i f.length u] 50)) A/\A.cell? (aJ l 0)=some (ag (je kid (c+1) a).2)/\A.frozen? ⟨l,0,none⟩=false) (λe A h=>by
      rcases h.2 with B|B
      .exact⟨B.2.1,h.1,B.2.2⟩
      .exact(B.1 j).elim)
     have HS:Hid (uQ D (c+1) (ahead+1)=uQ (D.drop (k+1)) (c+1) (je kid (c+1) a).2/\(je kid (c+1) a).2<=100):=⟨by rw[HF.out,HD.out];exact tQ j,GA _ _ _ j⟩;clear K j;go_wp2_with(go_at_call 117;refine b8.mono ?_;rintro e w2 ⟨rfl,K2,b9,c3⟩)
     go_roundw
     case rel=>exact⟨k+1,_,aa,by go_num,HS.out.1,HS.out.2,(J.trans (eG.of_below bU)).trans K2,b9,c3⟩
     case measure=>simp[intOf];omega
    .have a9:=K.mono (R':=λe A=>eG l (wr.alloc (ak #[au ⟨q.toArray⟩,aj t s.length d,aj i f.length u] 50)) A/\Flt E (wr.alloc (ak #[au ⟨q.toArray⟩,aj t s.length d,aj i f.length u] 50)).heap.size (je kid (c+1) a) e A) (λe A h=>by
      rcases h.2 with B|B
      .exact(j B.1).elim
      .exact⟨h.1,B.2⟩)
     have HS:Hid (uQ D (c+1) (ahead+1)=je kid (c+1) a):=(by rw[HF.out,HD.out];exact Az j:uQ D (c+1) (ahead+1)=je kid (c+1) a);have HP:=aF j;have sR:=J.size;clear K j;generalize je kid (c+1) a=r at a9 HS HP;go_wp2_with(go_at_call 117;refine a9.mono ?_;rintro e w2 ⟨K2,pb,c4,rfl,z0,z1⟩);go_ret;refine⟨((X.trans J).trans (eG.of_below bU)).trans K2,.inr ?_⟩;rw[HS.out];exact⟨HP.out,pb,by simp at c4;omega,rfl,z0,z1⟩
   .obtain rfl:k=D.length:=aa;have j:Hid (uQ D (c+1) (ahead+1)=(0,a)):=(by rw[HF.out,List.drop_length];unfold uQ;rfl:uQ D (c+1) (ahead+1)=(0,a));go_wp2_with fail;go_ret;exact⟨X.trans J,.inl (by rw[j.out];exact⟨rfl,rfl,I,a5⟩)⟩
 .rw[lU E j] at o;have R:je (.mk nm ats D) c ahead=(ck1 nm ats c ahead,ahead):=by unfold je;rw[aG j]
  rw[R];clear R C ih n2;go_enter func117,ntmps117;go_wp2_with(go_at_call 118;refine o.mono ?_;rintro e x ⟨rfl,g⟩;have H:=(g.cell (aM m)).trans m);go_ret;have z0:=kJ x #[ag ahead,aU 453 (.pointer (some (E (ck1 nm ats c ahead))))] 71 0 (ag ahead) rfl;have z1:=kJ x #[ag ahead,aU 453 (.pointer (some (E (ck1 nm ats c ahead))))] 71 1 (aU 453 (.pointer (some (E (ck1 nm ats c ahead))))) rfl;exact⟨((eG.of_below w).trans (eG.of_below g)).trans (eG.of_below (dR x _)),.inr ⟨j,x.heap.size,(bf w g).size,rfl,z0,z1⟩⟩
end
section
open Go.RowKit
set_option maxRecDepth 20000
theorem vM (P:Program)(w:ai)(a:Addr)(m:Mode)(f:Fn)(x y:Array ax):(store a (.func f x y) m).run P w=stored P w a (.func f x y) m:=run_store P w a _ m rfl
attribute [local go_sem] vM
theorem YY (W:ai)(cs:Array ax)(t:TypeId)(i:Nat):(W.alloc (ak cs t)).frozen? ⟨W.heap.size,i,none⟩=false:=by
 have e:(W.alloc (ak cs t)).heap[W.heap.size]? =some (ak cs t):=by show(W.heap.push (ak cs t))[W.heap.size]? =_;simp
 unfold World.frozen?;grind
theorem GG (E:Nat->Addr)(n:Nd)(I J K:ax)(W:ai)(hE:CE E W)(u:sS W I J K n):
  aL 68 #[.agg #[I,J,K]] W λe w'=>aD W w'/\(((je n 1 0).1=0/\e=ay aY)\/((je n 1 0).1≠0/\Flt E W.heap.size (je n 1 0) e w')):=by
 have w:=a6P E W (W.heap.size+1) (W.heap.size+1+1) hE aa aa n;unfold Chk at w;have k:=u;obtain⟨nm,ats,D⟩:=n;unfold sS at k;obtain⟨rfl, -,⟨a,b,rfl, -⟩,c,d,rfl, -⟩:=k;have g:=λV l=>w (jD nm) (aj a ats.length b) (aj c D.length d) 1 0 V u aC aC l;clear w;generalize Nd.mk nm ats D=n at g u⊢;unfold jD at*;have L:=dR W (ak #[au ⟨nm.toArray⟩,aj a ats.length b,aj c D.length d] 50);have m:=kJ W #[au ⟨nm.toArray⟩,aj a ats.length b,aj c D.length d] 50 0 (au ⟨nm.toArray⟩) rfl;have o:=kJ W #[au ⟨nm.toArray⟩,aj a ats.length b,aj c D.length d] 50 1 (aj a ats.length b) rfl;have q:=kJ W #[au ⟨nm.toArray⟩,aj a ats.length b,aj c D.length d] 50 2 (aj c D.length d) rfl;have r:=kJ (W.alloc (ak #[au ⟨nm.toArray⟩,aj a ats.length b,aj c D.length d] 50)) #[ag 0] 3 0 (ag 0) rfl;have x:=YY (W.alloc (ak #[au ⟨nm.toArray⟩,aj a ats.length b,aj c D.length d] 50)) #[ag 0] 3 0;have f:=dR (W.alloc (ak #[au ⟨nm.toArray⟩,aj a ats.length b,aj c D.length d] 50)) (ak #[ag 0] 3);have y:=kJ ((W.alloc (ak #[au ⟨nm.toArray⟩,aj a ats.length b,aj c D.length d] 50)).alloc (ak #[ag 0] 3)) #[.func (.func 117) #[] #[.pointer (some ⟨W.heap.size+1,0,none⟩),.pointer (some ⟨W.heap.size+1+1,0,none⟩)]] 222 0 (.func (.func 117) #[] #[.pointer (some ⟨W.heap.size+1,0,none⟩),.pointer (some ⟨W.heap.size+1+1,0,none⟩)]) rfl;have i:=dR ((W.alloc (ak #[au ⟨nm.toArray⟩,aj a ats.length b,aj c D.length d] 50)).alloc (ak #[ag 0] 3)) (ak #[.func (.func 117) #[] #[.pointer (some ⟨W.heap.size+1,0,none⟩),.pointer (some ⟨W.heap.size+1+1,0,none⟩)]] 222);simp only[dV] at r x y;have M:=(i.cell (aM r)).trans r;have s:=(X5 i (p:=⟨W.heap.size+1,0,none⟩) (aM r)).trans x;have O:=(i.cell (aM ((f.cell (aM m)).trans m))).trans ((f.cell (aM m)).trans m)
 have P:=(i.cell (aM ((f.cell (aM o)).trans o))).trans ((f.cell (aM o)).trans o);have Q:=(i.cell (aM ((f.cell (aM q)).trans q))).trans ((f.cell (aM q)).trans q);have t:=bf (bf L f) i;have z:=g _ t M s y;have A:=t.size;clear r x m o q L f i g;go_enter func68,ntmps68;go_upto_region 4 with fail;obtain⟨V,N⟩:∃V,((W.alloc (ak #[au ⟨nm.toArray⟩,aj a ats.length b,aj c D.length d] 50)).alloc (ak #[ag 0] 3)).alloc (ak #[.func (.func 117) #[] #[.pointer (some ⟨W.heap.size+1,0,none⟩),.pointer (some ⟨W.heap.size+1+1,0,none⟩)]] 222)=V:=⟨_,rfl⟩;rw[N] at M s O P Q t z y A⊢;clear N;have B:=z.mono (R':=λe w'=>∃v,e=ay v/\eG (W.heap.size+1) V w'/\(((je n 1 0).1=0/\v=aY)\/((je n 1 0).1≠0/\Flt E V.heap.size (je n 1 0) (ay v) w'))) (λe w' h=>by
  rcases h.2 with j|j
  .exact⟨_,j.2.1,h.1,.inl ⟨j.1,rfl⟩⟩
  .obtain⟨C,F,H,rfl,R⟩:=j;exact⟨_,rfl,h.1,.inr ⟨C,F,H,rfl,R⟩⟩)
 clear z;go_wp2_with(go_at_call 117;refine B.mono ?_;rintro e U ⟨v,rfl,S,T⟩);go_ret;refine⟨t.trans (S.below aa A),?_⟩;rcases T with⟨l,rfl⟩|⟨l,F,j,C,H⟩
 .exact .inl ⟨l,rfl⟩
 .exact .inr ⟨l,F,bO A j,C,H⟩
end
section
open Go.RowKit
set_option maxRecDepth 100000
theorem a9T:(prog.info? 187).map (·.size)=some 2:=aA
theorem afx:liesAt prog prog.depth 187 (2/prog.cellsOf 187) 0 187 1=true:=aA
theorem YZ (b:Nat)(w:ai)(c:w.cell? (aJ b 0)=some (aK b)):
  aL 156 #[aK b] w λe w'=>e=ay (aH #[])/\w'=w:=by
 obtain⟨j,a, -⟩:=ni.1 a9T;go_enter func156,ntmps156;go_wp2;rw[Lib.run_neq_ptr_same w _ underlying184 a];go_wp2
 go_end0
 exact⟨rfl,rfl⟩
theorem Un (b:Nat)(w:ai)(d:w.cell? (aJ b 0)=some (.pointer none))(hs:w.shape? b=some (187,2))(f:w.frozen? ⟨b,0,none⟩=false):
  aL 156 #[aK b] w λe w'=>e=ay (aH #[])/\w'=w.setCell ⟨b,0,none⟩ (aK b):=by
 obtain⟨j,c,a⟩:=ni.1 a9T;go_enter func156,ntmps156;go_wp2;rw[Lib.run_to_unsafe w ⟨b,0,none⟩ underlying184 underlying124 c (by rw[a];decide) hs (Nat.zero_lt_succ 1)];simp only[Result.andThen];rw[Oper.upon_value];go_wp2;rw[run_callFunc_extern func223 aA aA aA (e:=Extern.AbiNoEscape.same) aA,Lib.run_noEscape];simp only[Result.andThen];rw[Oper.upon_value];go_wp2;rw[Lib.run_from_unsafe w ⟨b,0,none⟩ underlying124 underlying184 c hs afx];simp only[Result.andThen];rw[Oper.upon_value];go_wp2
 go_end0
 exact⟨rfl,rfl⟩
abbrev Bd (B b:Nat)(l:Bs)(w:ai):Prop:=Lib.IsBuilderF 187 5 B b (Lib.byteCells l) w
structure EN (B b:Nat)(w w':ai):Prop where
 low:Below B w w'
 oth:Lib.OthersKept 5 (some b) w w'
theorem EN.trans {B b:Nat}{w w' a:ai}(h:EN B b w w')(k:EN B b w' a):EN B b w a:=⟨h.low.trans k.low,h.oth.trans k.oth⟩
theorem EN.refl (B b:Nat)(w:ai):EN B b w w:=⟨aW _ _,Lib.OthersKept.refl _ _ _⟩
theorem Ql (B b:Nat)(l:Bs)(w:ai)(h:Bd B b l w):aL 156 #[aK b] w λe w'=>e=ay (aH #[])/\Lib.BuilderAtF 187 5 B b (aK b) (Lib.byteCells l) w'/\EN B b w w':=by
 rcases h with h|h
 .refine(Un b w h.cell0 h.shape h.frozen0).mono ?_;rintro e w' ⟨rfl,rfl⟩;exact⟨rfl,h.used _,(aW B w).setCell (p:=⟨b,0,none⟩) h.1 _,(Lib.OthersKept.refl _ _ w).setCell ⟨b,0,none⟩ rfl _⟩
 .refine(YZ b w h.cell0).mono ?_;rintro e w' ⟨rfl,rfl⟩;exact⟨rfl,h,EN.refl _ _ _⟩
theorem Qm:(prog.info? 5).map (λi=>(i.zero,i.size,i.bytes))=some (some (.int .u8 0),1,1):=aA
theorem Qn {w:ai}{B:Nat}{e:TypeId}{v:ax}{n:Nat}{b:List ax}(h:w.ownsRowF B e 1 v n b):∃c d a,v=aj c d a:=by
 rcases h.2 with⟨f,_⟩|⟨g,a,i,j,f,_⟩
 .grind
 .grind
theorem bu {w:ai}{b:Nat}{o:Obj}(h:w.heap[b]? =some o):b<w.heap.size:=(eY.1 h).1
theorem gD (B b:Nat)(l s:Bs)(w:ai)(h:Bd B b l w)(K:l.length+s.length<=1000000000)(L:B<=w.heap.size):
  aL 154 #[aK b,au ⟨s.toArray⟩] w λe w'=>e=ay (aH #[ag s.length,aY])/\Bd B b (l++s) w'/\EN B b w w':=by
 obtain⟨D,E,r,t,u⟩:=info_parts Qm;have j:=iE s;have m:(Lib.byteCells l).length=l.length:=by simp[Lib.byteCells]
 have F:=Ql B b l w h;go_enter func154,ntmps154;go_wp2_with(first|(at_builtin;refine Lib.wpList_append_own_stringF _ rfl _ _ 185 9 rfl B 5 D underlying185 underlying9 E r t u _ _ _ rfl c ⟨s.toArray⟩ rfl (by rw[m,j,dD];omega) (by rw[m,j];omega) aa ?_;intro H q d a _;have f:q.heap[b]? =some (ak #[aK b,v] 187 (0,0)):=(by rw[a.block b (bu g) (λe=>x e.symm)];exact g);have M:q.cell? (aJ b 1)=some v:=(by rw[Lib.cell_of_heap f];rfl);have N:q.frozen? ⟨b,1,none⟩=false:=Lib.frozen_of_heap f 1;obtain⟨y,z,i,rfl⟩:∃y z i,H=aj y z i:=Qn d)|(go_at_call 156;refine F.mono ?_;rintro e A ⟨rfl,⟨n,v,g,c,x⟩,o⟩;have O:A.cell? (aJ b 1)=some v:=(by rw[Lib.cell_of_heap g];rfl);have P:=o.low.size))
 go_ret2
 have C:q.ownsRowF B 5 1 (aj y z i) (Lib.byteCells (l++s)).length (Lib.byteCells (l++s)):=by
  have I:Lib.byteCells (l++s)=Lib.byteCells l++Lib.strCells ⟨s.toArray⟩:=by rw[Lib.byteCells_append];rfl
  rw[I,dO,Lib.strCells_length];exact d
 refine⟨rfl,.inr (Lib.BuilderAtF.put (T:=187) (e:=5) n f C aC),o.trans ⟨?_,?_⟩⟩
 .exact((aW B A).grown a aa (λk J=>(c.lt k J).1)).setCell (p:=⟨b,1,none⟩) n _
 .exact((Lib.OthersKept.refl _ _ A).grown a (Lib.ownsRowF_kind c)).setCell ⟨b,1,none⟩ rfl _
theorem one_cell (w:ai)(x:ax)(t:TypeId):∀j u,[x][j]? =some u->(w.alloc (ak #[x] t)).cell? ((⟨w.heap.size,0,none⟩:Addr).add j)=some u:=by
 intro j u h
 match j,h with
 |0,h=>simp at h;subst h;exact kJ w #[x] t 0 x rfl
theorem yO (B b:Nat)(l:Bs)(c:UInt8)(w:ai)(h:Bd B b l w)(L:l.length+1<=1000000000)(M:B<=w.heap.size):
  aL 92 #[aK b,.int .u8 c.toNat] w λe w'=>e=ay aY/\Bd B b (l++[c]) w'/\EN B b w w':=by
 obtain⟨E,F,s,t,x⟩:=info_parts Qm;have n:(Lib.byteCells l).length=l.length:=by simp[Lib.byteCells]
 have H:=Ql B b l w h;go_enter func92,ntmps92;go_wp2_with(first|(at_builtin;refine wpList_append_ownF _ rfl _ _ 185 rfl B 5 E (.int .u8 0) 1 1 underlying185 F s t x rfl aC _ _ _ rfl (d.alloc _) ⟨m.heap.size,0,none⟩ 1 1 [.int .u8 c.toNat] rfl rfl (one_cell m _ _) (λu D=>by simp at D;subst D;rfl) (by rw[n,dD];omega) (by rw[n];omega) bq ?_;intro I r f a _;have i:r.heap[b]? =some (ak #[aK b,v] 187 (0,0)):=(by rw[a.block b (by have:=bu g;simp;omega) (λe=>y e.symm),Lib.alloc_old m _ b (bu g)];exact g);have N:r.cell? (aJ b 1)=some v:=(by rw[Lib.cell_of_heap i];rfl);have O:r.frozen? ⟨b,1,none⟩=false:=Lib.frozen_of_heap i 1;obtain⟨z,A,j,rfl⟩:∃z A j,I=aj z A j:=Qn f)|(go_at_call 156;refine H.mono ?_;rintro e m ⟨rfl,⟨o,v,g,d,y⟩,q⟩;have P:m.cell? (aJ b 1)=some v:=(by rw[Lib.cell_of_heap g];rfl);have Q:=q.low.size));go_ret;have C:r.ownsRowF B 5 1 (aj z A j) (Lib.byteCells (l++[c])).length (Lib.byteCells (l++[c])):=by
  have J:Lib.byteCells (l++[c])=Lib.byteCells l++[.int .u8 c.toNat]:=by rw[Lib.byteCells_append];rfl
  rw[J,dO];exact f
 refine⟨rfl,.inr (Lib.BuilderAtF.put (T:=187) (e:=5) o i C aC),q.trans ⟨?_,?_⟩⟩
 .exact(((aW B m).alloc aa _).grown a bq (λk K=>(d.lt k K).1)).setCell (p:=⟨b,1,none⟩) o _
 .exact(((Lib.OthersKept.refl _ _ m).alloc _).grown a (Lib.ownsRowF_kind (d.alloc _))).setCell ⟨b,1,none⟩ rfl _
end
section
open Go.RowKit
set_option maxRecDepth 20000
def wl (c:UInt8):Bs:=if c=60 then[38,108,116,59] else if c=62 then[38,103,116,59] else if c=38 then[38,97,109,112,59] else if c=34 then[38,113,117,111,116,59] else[]
theorem GH (c:UInt8):Lf c=⟨(wl c).toArray⟩:=by
 unfold Lf wl;grind
theorem X6 (c:UInt8):Yl c=if wl c=[] then[c] else wl c:=by
 unfold Yl wl;grind
theorem abm (c:UInt8):(wl c).length<=6:=by
 unfold wl
 repeat' split
 all_goals decide
theorem a2l (c:UInt8):(Yl c).length<=6:=by
 unfold Yl
 repeat' split
 all_goals(simp)
theorem E8:∀(a b:Bs),oO (a++b)=oO a++oO b
 |[],b=>rfl
 |c::a,b=>by simp[oO,E8 a b]
theorem GI:∀v:Bs,(oO v).length<=6*v.length
 |[]=>by simp[oO]
 |c::v=>by have:=a2l c;have:=GI v;simp[oO];omega
theorem Z0 (s:aO)(k:Nat)(h:k<s.size):s.data.toList.take (k+1)=s.data.toList.take k++[s[k]]:=by
 rw[eX,fD (by rw[Gx];exact h),Qj s k h];rfl
theorem Qo (s:aO)(k:Nat)(h:k<s.size):oO (s.data.toList.take (k+1))=oO (s.data.toList.take k)++Yl s[k]:=by
 rw[Z0 s k h,E8];simp[oO]
theorem a2m (s:aO)(k:Nat)(h:k<=s.size):(oO (s.data.toList.take k)).length<=6*s.size:=by
 have:=GI (s.data.toList.take k);grind
theorem GJ (B b:Nat)(l:Bs)(s:aO)(W:ai)(h:Bd B b l W)(F:l.length<=100000000)(hs:s.size<=1000)(w:B<=W.heap.size):
  aL 157 #[aK b,au s] W λe w'=>e=ay (aH #[])/\Bd B b (l++oO s.data.toList) w'/\EN B b W w':=by
 have x:(s.size:Int)<=1000:=aa;have p:=aF h;clear h;go_enter func157,ntmps157;go_wp2_with fail
 go_loopw [4] (λy wr=>∃k:Nat,k<=s.size/\y=ag k/\Bd B b (l++oO (s.data.toList.take k)) wr/\EN B b W wr) (λy _=>s.size-(intOf y).toNat)
 case atStart=>exact⟨0,bA _,rfl,by simpa[oO] using p.out,EN.refl _ _ _⟩
 case round=>
  obtain⟨k,z,rfl,i,a⟩:=hrel;have c:=aF i;clear i;have j:B<=wr.heap.size:=bO w a.low.size;by_cases m:k<s.size
  .have u:(k:Int)<(s.size:Int):=aa;have H:=Fp s[k];have o:=qY s[k];have v:(l++oO (s.data.toList.take k)).length<=100006000:=by have:=a2m s k z;rw[dO];omega
   by_cases g:wl s[k]=[]
   .have n:Lf s[k]=⟨#[]⟩:=by rw[GH,g]
    rw[n] at o;have q:=yO B b _ s[k] wr c.out aa j;have d:Hid (oO (s.data.toList.take (k+1))=oO (s.data.toList.take k)++[s[k]]):=(by rw[Qo s k m,X6,aR g]:oO (s.data.toList.take (k+1))=oO (s.data.toList.take k)++[s[k]]);clear n g;go_wp2_with(first|(go_at_call 224;refine(o _).mono ?_;rintro e A ⟨rfl,rfl⟩)|(go_at_call 92;refine q.mono ?_;rintro e C ⟨rfl,r,f⟩))
    go_roundw
    case rel=>exact⟨k+1,aa,by go_num,by rw[d.out,<- lF];exact r,a.trans f⟩
    case measure=>simp[intOf];omega
   .have n:Lf s[k]=⟨(wl s[k]).toArray⟩:=GH _;rw[n] at o;have D:=abm s[k];have t:=gD B b _ (wl s[k]) wr c.out aa j;have d:Hid (oO (s.data.toList.take (k+1))=oO (s.data.toList.take k)++wl s[k]):=(by rw[Qo s k m,X6,aG g]:oO (s.data.toList.take (k+1))=oO (s.data.toList.take k)++wl s[k]);have I:(wl s[k]).isEmpty=false:=by rw[List.isEmpty_eq_false_iff];exact g
    have J:(wl s[k]==[])=false:=by rw[dW];exact g
    clear n;generalize wl s[k]=K at*;go_wp2_with(first|(go_at_call 224;refine(o _).mono ?_;rintro e A ⟨rfl,rfl⟩)|(go_at_call 154;refine t.mono ?_;rintro e C ⟨rfl,r,f⟩))
    go_roundw
    case rel=>exact⟨k+1,aa,by go_num,by rw[d.out,<- lF];exact r,a.trans f⟩
    case measure=>simp[intOf];omega
  .obtain rfl:k=s.size:=aa;have E:Hid (s.data.toList.take s.size=s.data.toList):=(by rw[<- Gx,gJ]:s.data.toList.take s.size=s.data.toList);go_wp2_with fail
   go_end0
   exact⟨rfl,by have:=c.out;rwa[E.out] at this,a⟩
mutual
def okN:Nd->Prop
 | .mk nm ats D=>iQ nm=true/\(∀a∈ats,iQ a.1=true/\isVal a.2=true)/\okL D
def okL:List Nd->Prop
 |[]=>True
 |k::l=>okN k/\okL l
end
theorem X7:∀{l:List Nd} {k:Nd},okL l->k∈l->okN k
 |[],_,_,h=>by simp at h
 |a::l,k,h,b=>by
  unfold okL at h;rcases gP.1 b with rfl|b
  .exact h.1
  .exact X7 h.2 b
theorem a2n:∀(ats pre:List (Bs×Bs)),EK pre ats=0->∀a∈ats,iQ a.1=true/\isVal a.2=true
 |[],_,_,a,b=>by simp at b
 |x::r,pre,h,a,b=>by
  unfold EK at h;split at h
  .rename_i c;rcases gP.1 b with rfl|b
   .unfold Um at c;grind
   .exact a2n r _ h a b
  .rename_i c;exact(c h).elim
theorem GL {b ahead:Nat}(h:ck1 nm ats b ahead=0):iQ nm=true/\ats.length<=12/\∀a∈ats,iQ a.1=true/\isVal a.2=true:=by
 unfold ck1 at h;split at h
 .cases h
 .split at h
  .cases h
  .split at h
   .rename_i c;split at h
    .cases h
    .exact⟨c,aa,a2n ats [] h⟩
   .cases h
mutual
theorem a2o:∀(n:Nd) (a ahead:Nat),(je n a ahead).1=0->okN n
 | .mk nm ats D,a,ahead,h=>by
  unfold je at h;split at h
  .rename_i b;unfold okN;exact⟨(GL b).1,(GL b).2.2,a2p D _ _ h⟩
  .rename_i b;exact(b h).elim
theorem a2p:∀(l:List Nd) (a ahead:Nat),(uQ l a ahead).1=0->okL l
 |[],_,_,_=>by unfold okL;trivial
 |k::l,a,ahead,h=>by
  unfold uQ at h;split at h
  .rename_i b;unfold okL;exact⟨a2o k _ _ b,a2p l _ _ h⟩
  .rename_i b;exact(b h).elim
end
theorem Bd.al {B b:Nat}{l:Bs}{w:ai}(h:Bd B b l w)(o:Obj):Bd B b l (w.alloc o):=Lib.IsBuilderF.alloc h o
theorem Bd.lt {B b:Nat}{l:Bs}{w:ai}(h:Bd B b l w):B<=b/\b<w.heap.size:=by
 rcases h with⟨a,v,c,_⟩|⟨a,v,c,_⟩
 .grind
 .grind
theorem EN.al {B b:Nat}(w:ai)(o:Obj)(a:B<=w.heap.size):EN B b w (w.alloc o):=⟨(aW B w).alloc a o,(Lib.OthersKept.refl _ _ w).alloc o⟩
theorem EN.box {B b:Nat}{w w':ai}(h:EN B b w w'){N:Nat}{cs:Array ax}{t:TypeId}(a:w.heap[N]? =some (ak cs t))(hne:N≠b)(d:t≠5):w'.heap[N]? =some (ak cs t):=
 h.oth N _ a (λe=>hne (fT e)) (λc f e=>by cases e;exact d rfl)
theorem dY (w:ai)(cs:Array ax)(t:TypeId):(w.alloc (ak cs t)).heap[w.heap.size]? =some (ak cs t):=by show(w.heap.push (ak cs t))[w.heap.size]? =_;simp
theorem aQ {w:ai}{N:Nat}{cs:Array ax}{t:TypeId}(h:w.heap[N]? =some (ak cs t))(i:Nat)(v:ax)(a:cs[i]? =some v):w.cell? (aJ N i)=some v:=by
 unfold World.cell?;grind
theorem N7 (a c:Bs):(⟨a.toArray⟩++⟨c.toArray⟩:aO)=⟨(a++c).toArray⟩:=by
 apply ByteArray.ext;simp[ByteArray.data_append]
theorem lV {s:Bs}(h:iQ s=true):s.length<=12:=by
 cases s with
 |nil=>simp
 |cons c r=>simp only[iQ,jg,lG] at h;exact h.1.1
theorem qF {s:Bs}(h:isVal s=true):s.length<=200:=by
 simp only[isVal,jg,lG] at h;exact h.1
theorem wS:∀a c:List (Bs×Bs),jY (a++c)=jY a++jY c
 |[],_=>rfl
 |x::a,c=>by simp[jY,wS a c]
theorem Lg {k:Nat}{x:Bs×Bs}(a:ats[k]? =some x):jY (ats.take (k+1))=jY (ats.take k)++atT x:=by
 rw[eX,a,wS];simp[jY]
theorem a6Q (ats:List (Bs×Bs))(k:Nat):(jY (ats.take k)).length<=(jY ats).length:=by
 have:=congrArg List.length (wS (ats.take k) (ats.drop k));rw[jS,dO] at this;omega
theorem wT:∀a c:List Nd,mF (a++c)=mF a++mF c
 |[],_=>by simp[mF]
 |x::a,c=>by simp[mF,wT a c]
theorem Lh {k:Nat}{x:Nd}(a:D[k]? =some x):mF (D.take (k+1))=mF (D.take k)++txt x:=by
 rw[eX,a,wT];simp[mF]
theorem a6R (D:List Nd)(k:Nat):(mF (D.take k)).length<=(mF D).length:=by
 have:=congrArg List.length (wT (D.take k) (D.drop k));rw[jS,dO] at this;omega
theorem a6S (nm:Bs)(ats:List (Bs×Bs))(D:List Nd):1+nm.length+(jY ats).length+(mF D).length<=(txt (.mk nm ats D)).length:=by
 cases D with
 |nil=>rw[Mr];simp[mF];omega
 |cons k r=>rw[FP];simp;omega
def Wr (a:ai)(b:Nat)(n:Nd):Prop:=∀(c d f:ax) (l:Bs) (W:ai),sS a c d f n->okN n->aD a W->Bd a.heap.size b l W->l.length+(txt n).length<=100000000->
 aL 95 #[aK b,.agg #[c,d,f]] W λe g=>e=ay (aH #[])/\Bd a.heap.size b (l++txt n) g/\EN a.heap.size b W g
theorem JO (a:ai)(b:Nat):∀n,Wr a b n:=by
 refine Nd.ind λnm ats D ih=>?_;intro c0 c1 c2 l W hn g hb J d9;unfold sS at hn;obtain⟨rfl,hl,⟨K,L,rfl,e4,b1,e5,M⟩,H,I,rfl,e6,b2,e7,N⟩:=hn;unfold okN at g;obtain⟨b3,N8,c⟩:=g;have hB:=hb.size;have e8:=J.lt;have t:=dY W #[au ⟨nm.toArray⟩,aj K ats.length L,aj H D.length I] 50;have n0:=aQ t 0 (au ⟨nm.toArray⟩) rfl;have k0:=EN.al (B:=a.heap.size) (b:=b) W (ak #[au ⟨nm.toArray⟩,aj K ats.length L,aj H D.length I] 50) hB;have O:=J.al (ak #[au ⟨nm.toArray⟩,aj K ats.length L,aj H D.length I] 50);have e9:=lV b3;have f0:1+nm.length<=9223372036854775807:=aa;have f1:=a6S nm ats D;have f2:(ats.length:Int)<=9223372036854775807:=by rw[dD] at b1;omega
 have f3:(D.length:Int)<=9223372036854775807:=by rw[dD] at b2;omega
 have o:W.heap.size≠b:=aa;have b4:=aF M;have b5:=aF N;have IH:=aF ih;have b6:=aF N8;have b7:=aF c;clear M N ih N8 c;unfold jD;go_enter func95,ntmps95;go_wp2_with(go_at_call 154;rw[N7];refine(gD a.heap.size b l ([60]++nm) _ O bq (bO hB k0.low.size)).mono ?_;rintro e w1 ⟨rfl,GK,u⟩;have P:=u.box t o aC;have m1:=aQ P 1 (aj K ats.length L) rfl);obtain⟨V0,Ot⟩:∃V,W.alloc (ak #[au ⟨nm.toArray⟩,aj K ats.length L,aj H D.length I] 50)=V:=⟨_,rfl⟩;rw[Ot] at k0 u t;clear n0 O Ot m1;have K1:=k0.trans u;have b8:=aF GK;clear GK
 go_loopw [16] (λy wr=>∃k:Nat,k<=ats.length/\y=ag k/\Bd a.heap.size b (l++([60]++nm)++jY (ats.take k)) wr/\EN a.heap.size b w1 wr) (λy _=>ats.length-(intOf y).toNat)
 case atStart=>exact⟨0,bA _,rfl,by simpa[jY] using b8.out,EN.refl _ _ _⟩
 case round=>
  obtain⟨k,hk,rfl,Q,c⟩:=hrel;have w:=aF Q;clear Q;have z:a.heap.size<=wr.heap.size:=bO (bO hB K1.low.size) c.low.size;have bR:aD a wr:=(hb.trans K1.low).trans c.low;have R:=c.box P o aC;by_cases b9:k<ats.length
  .have e3:(k:Int)<(ats.length:Int):=aa;obtain⟨x,h, -⟩:=drop_at b9;obtain⟨b',S,rfl,c0,c1, -, -⟩:=b4.out k x h;obtain⟨T,U⟩:=b6.out x (ic h);have f4:=lV T;have f5:=qF U;have A:=a6Q ats (k+1);rw[Lg h,dO] at A;have f6:(atT x).length=1+(x.1.length+(2+((oO x.2).length+1))):=by simp[atT];omega
   have HM:Hid (jY (ats.take (k+1))=jY (ats.take k)++atT x):=Lg h;have j0:=(bR.cell (aM c0)).trans c0;have j1:=(bR.cell (aM c1)).trans c1;unfold jD at j0 j1;clear c0 c1 h T U;have C:=dY wr #[au ⟨x.1.toArray⟩,au ⟨x.2.toArray⟩] 145;have u0:=aQ C 0 (au ⟨x.1.toArray⟩) rfl;have X:=EN.al (B:=a.heap.size) (b:=b) wr (ak #[au ⟨x.1.toArray⟩,au ⟨x.2.toArray⟩] 145) z;have p:=w.out.al (ak #[au ⟨x.1.toArray⟩,au ⟨x.2.toArray⟩] 145);have c3:wr.heap.size≠b:=by have:=w.out.lt;omega
   have f7:1+x.1.length<=9223372036854775807:=aa;have f8:1+x.1.length+2<=9223372036854775807:=aa;have f:(l++([60]++nm)++jY (ats.take k)).length=l.length+(1+nm.length)+(jY (ats.take k)).length:=bq;have z0:=X.low.size;go_wp2_with(first|(go_at_call 154;rw[N7,N7];refine(gD a.heap.size b _ ([32]++x.1++[61,34]) _ p (by rw[f];simp;omega) aa).mono ?_;rintro e w2 ⟨rfl,E,i⟩;have y1:=i.box C c3 aC;have u1:=aQ y1 1 (au ⟨x.2.toArray⟩) rfl;have z1:=i.low.size)|(go_at_call 157;refine(GJ a.heap.size b _ ⟨x.2.toArray⟩ _ E (by rw[dO,f];simp;omega) (by rw[iE];omega) aa).mono ?_;rintro e w3 ⟨rfl,c4,Y⟩;have z2:=Y.low.size)|(go_at_call 154;refine(gD a.heap.size b _ [34] _ c4 (by rw[dO,dO,f];simp;omega) aa).mono ?_;rintro e w4 ⟨rfl,c5,c6⟩))
   go_roundw
   case rel=>exact⟨k+1,aa,by go_num,by rw[HM.out];simpa[atT] using c5,(((c.trans X).trans i).trans Y).trans c6⟩
   case measure=>simp[intOf];omega
  .obtain rfl:k=ats.length:=aa;have Z:Hid (Bd a.heap.size b (l++([60]++nm)++jY ats) wr):=(by have:=w.out;rwa[gJ] at this:Bd a.heap.size b (l++([60]++nm)++jY ats) wr);have m2:=aQ R 2 (aj H D.length I) rfl;have f:(l++([60]++nm)++jY ats).length=l.length+(1+nm.length)+(jY ats).length:=bq;by_cases hz:D.length=0
   .obtain rfl:D=[]:=lu.1 hz;have HT:Hid (txt (.mk nm ats [])=([60]++nm)++jY ats++[47,62]):=(by rw[Mr];simp:txt (.mk nm ats [])=([60]++nm)++jY ats++[47,62]);go_wp2_with(go_at_call 154;refine(gD a.heap.size b _ [47,62] _ Z.out (by rw[f];simp;omega) z).mono ?_;rintro e w2 ⟨rfl,E,i⟩);refine bg (v:=aH #[]) (by simp[results,results95,go_sem]) rfl ⟨rfl,?_,(K1.trans c).trans i⟩;rw[HT.out];simpa using E
   .obtain⟨kf,kr,a4⟩:∃kf kr,D=kf::kr:=by
     cases D with
     |nil=>simp at hz
     |cons kf kr=>exact⟨kf,kr,rfl⟩
    have HT:Hid (txt (.mk nm ats D)=([60]++nm)++jY ats++[62]++mF D++([60,47]++nm++[62])):=(by rw[a4,FP];simp:txt (.mk nm ats D)=([60]++nm)++jY ats++[62]++mF D++([60,47]++nm++[62]));have f9:(txt (.mk nm ats D)).length=1+nm.length+(jY ats).length+1+(mF D).length+(2+nm.length+1):=by rw[HT.out];simp;omega
    clear a4;have g0:¬(D.length:Int)=0:=aa;go_wp2_with(go_at_call 154;refine(gD a.heap.size b _ [62] _ Z.out (by rw[f];simp;omega) z).mono ?_;rintro e w5 ⟨rfl,a5,a6⟩;have a7:=a6.box R o aC;have p2:=aQ a7 2 (aj H D.length I) rfl);have K6:=(K1.trans c).trans a6;have c7:=aF a5;clear a5 p2 m2
    go_loopw [44] (λy wq=>∃q:Nat,q<=D.length/\y=ag q/\Bd a.heap.size b (l++([60]++nm)++jY ats++[62]++mF (D.take q)) wq/\EN a.heap.size b w5 wq) (λy _=>D.length-(intOf y).toNat)
    case atStart=>exact⟨0,bA _,rfl,by simpa[mF] using c7.out,EN.refl _ _ _⟩
    case round=>
     obtain⟨q,hq,rfl,a8,j⟩:=hrel;have a9:=aF a8;clear a8;have b0:a.heap.size<=wr.heap.size:=bO (bO hB K6.low.size) j.low.size;have bQ:aD a wr:=(hb.trans K6.low).trans j.low;have c8:=j.box a7 o aC;have F:(l++([60]++nm)++jY ats++[62]++mF (D.take q)).length=l.length+(1+nm.length)+(jY ats).length+1+(mF (D.take q)).length:=bq;by_cases c9:q<D.length
     .have g1:(q:Int)<(D.length:Int):=aa;obtain⟨kid,h, -⟩:=drop_at c9;obtain⟨b',S,d0,d1,d2,rfl,e0,e1,e2,tV⟩:=b5.out.get h;rw[gq] at e0 e1 e2;have m:kid∈D:=ic h;have A:=a6R D (q+1);rw[Lh h,dO] at A;have HM:Hid (mF (D.take (q+1))=mF (D.take q)++txt kid):=Lh h;have HI:=IH.out kid m;have g:=X7 b7.out m;have E5:=tV;obtain⟨A8,mW,r⟩:=kid;unfold sS at E5;obtain⟨rfl, -,⟨o',d,rfl, -⟩,s,jo,rfl, -⟩:=E5;have j0:=(bQ.cell (aM e0)).trans e0;have j1:=(bQ.cell (aM e1)).trans e1;have j2:=(bQ.cell (aM e2)).trans e2;unfold jD at j0 j1 j2 tV;clear e0 e1 e2 m h;have C:=dY wr #[au ⟨A8.toArray⟩,aj o' mW.length d,aj s r.length jo] 50;have u0:=aQ C 0 (au ⟨A8.toArray⟩) rfl;have u1:=aQ C 1 (aj o' mW.length d) rfl;have u2:=aQ C 2 (aj s r.length jo) rfl;have X:=EN.al (B:=a.heap.size) (b:=b) wr (ak #[au ⟨A8.toArray⟩,aj o' mW.length d,aj s r.length jo] 50) b0;have p:=a9.out.al (ak #[au ⟨A8.toArray⟩,aj o' mW.length d,aj s r.length jo] 50);have HC:=HI _ _ _ _ _ tV g (bQ.trans X.low) p (by rw[F];omega);clear HI g tV p C;go_wp2_with(go_at_call 95;refine HC.mono ?_;rintro e w7 ⟨rfl,d3,d4⟩)
      go_roundw
      case rel=>exact⟨q+1,aa,by go_num,by rw[HM.out,<- lF];exact d3,(j.trans X).trans d4⟩
      case measure=>simp[intOf];omega
     .obtain rfl:q=D.length:=aa;have d6:Hid (Bd a.heap.size b (l++([60]++nm)++jY ats++[62]++mF D) wr):=(by have:=a9.out;rwa[gJ] at this:Bd a.heap.size b (l++([60]++nm)++jY ats++[62]++mF D) wr);have m0:=aQ c8 0 (au ⟨nm.toArray⟩) rfl;have g2:2+nm.length<=9223372036854775807:=aa;have g3:2+nm.length+1<=9223372036854775807:=aa;rw[gJ] at F;go_wp2_with(go_at_call 154;rw[N7,N7];refine(gD a.heap.size b _ ([60,47]++nm++[62]) _ d6.out (by rw[F];simp;omega) b0).mono ?_;rintro e w8 ⟨rfl,d7,d8⟩)
      go_end0
      refine⟨rfl,?_,(K6.trans j).trans d8⟩;rw[HT.out];simpa using d7
theorem a6U {a:Bs×Bs}(b:iQ a.1=true)(c:isVal a.2=true):(atT a).length<=1216:=by
 have:=lV b;have:=qF c;have:=GI a.2;simp[atT];omega
theorem Qp:∀(l:List (Bs×Bs)),(∀a∈l,iQ a.1=true/\isVal a.2=true)->(jY l).length<=1216*l.length
 |[],_=>by simp[jY]
 |a::l,h=>by
  have d:=a6U (h a aI).1 (h a aI).2;have e:=Qp l (λb c=>h b (by simp[c]));simp[jY];omega
mutual
theorem X8:∀(n:Nd) (a ahead:Nat),(je n a ahead).1=0->(txt n).length+20000*ahead<=20000*(je n a ahead).2
 | .mk nm ats D,a,ahead,h=>by
  have b:ck1 nm ats a ahead=0:=by
   unfold je at h;grind
  rw[GD b] at h⊢;obtain⟨d,f,e⟩:=GL b;have g:=lV d;have i:=Qp ats e;have c:=X9 D _ _ h;cases D with
  |nil=>rw[Mr];simp[mF] at c⊢;omega
  |cons k r=>rw[FP];simp at c⊢;omega
theorem X9:∀(l:List Nd) (a ahead:Nat),(uQ l a ahead).1=0->(mF l).length+20000*ahead<=20000*(uQ l a ahead).2
 |[],a,ahead,_=>by simp[mF,uQ]
 |k::l,a,ahead,h=>by
  have b:(je k a ahead).1=0:=by
   unfold uQ at h;grind
  rw[tQ b] at h⊢;have c:=X8 k _ _ b;have d:=X9 l _ _ h;simp[mF];omega
end
theorem Bd.fresh (B:Nat)(w:ai)(a:B<=w.heap.size):Bd B w.heap.size [] (w.alloc (ak #[.pointer none,aj none 0 0] 187)):=
 .inl ⟨a,aj none 0 0,dY w _ _,World.ownsRowF_of (gp _ _ _ _),by simp[Value.ownBlock]⟩
theorem GN {B:Nat}{w:ai}:∀(k:Nat) {v:ai},Below B w v->Below B w (v.drewN k):=λ_ _ h=>⟨h.os,h.tape,h.output,h.size,h.block⟩
def a9U (E:Nat->Addr)(B:Nat)(n:Nd)(e:Ending)(w:ai):Prop:=
 ((je n 1 0).1≠0/\∃a,B<=a/\e=ay (aH #[au ⟨#[]⟩,aU 67 (aK a)])/\w.cell? (aJ a 0)=some (ag (je n 1 0).2)/\w.cell? (aJ a 1)=some (aU 453 (.pointer (some (E (je n 1 0).1)))))\/
 ((je n 1 0).1=0/\10000<(txt n).length/\e=ay (aH #[au ⟨#[]⟩,aU 453 (.pointer (some (E 2)))]))\/
 ((je n 1 0).1=0/\(txt n).length<=10000/\e=ay (aH #[au ⟨(txt n).toArray⟩,aY]))
theorem a6V (E:Nat->Addr)(n:Nd)(J K L:ax)(W:ai)(hE:ME E W)(q:sS W J K L n):
  aL 51 #[.agg #[J,K,L]] W λe w'=>aD W w'/\a9U E W.heap.size n e w':=by
 have r:=q;obtain⟨nm,ats,D⟩:=n;unfold sS at r;obtain⟨rfl, -,⟨d,f,rfl, -⟩,g,i,rfl, -⟩:=r;generalize hN:Nd.mk nm ats D=n at q⊢;clear hN;unfold jD at*;have p:=dR W (ak #[au ⟨nm.toArray⟩,aj d ats.length f,aj g D.length i] 50);have w:=kJ W #[au ⟨nm.toArray⟩,aj d ats.length f,aj g D.length i] 50 0 (au ⟨nm.toArray⟩) rfl;have x:=kJ W #[au ⟨nm.toArray⟩,aj d ats.length f,aj g D.length i] 50 1 (aj d ats.length f) rfl;have y:=kJ W #[au ⟨nm.toArray⟩,aj d ats.length f,aj g D.length i] 50 2 (aj g D.length i) rfl;have z:=GG E n _ _ _ _ (hE.below p).ce (sS.below p n q);unfold a9U;by_cases j:(je n 1 0).1=0
 .have s:=z.mono (R':=λe w'=>e=ay aY/\Below (W.alloc (ak #[au ⟨nm.toArray⟩,aj d ats.length f,aj g D.length i] 50)).heap.size (W.alloc (ak #[au ⟨nm.toArray⟩,aj d ats.length f,aj g D.length i] 50)) w') (λe w' h=>by
   rcases h.2 with l|l
   .exact⟨l.2,h.1⟩
   .exact(l.1 j).elim)
  have t:=a2o n 1 0 j;have M:(txt n).length<=2000000:=by have:=X8 n 1 0 j;have:=GA n 1 0 j;omega
  have A:=aF j;clear z j;have C:=λb=>JO W b n;unfold Wr at C;by_cases u:10000<(txt n).length
  .have m:10000<((txt n).length:Int):=aa;go_enter func51,ntmps51;go_upto_region 7 with(first|(go_at_call 68;refine s.mono ?_;rintro e k ⟨rfl,a⟩;have N:=eD (ak #[.pointer none,aj none 0 0] 187) ((a.cell (aM w)).trans w);have O:=eD (ak #[.pointer none,aj none 0 0] 187) ((a.cell (aM x)).trans x);have P:=eD (ak #[.pointer none,aj none 0 0] 187) ((a.cell (aM y)).trans y);have c:=bf p a)|(go_at_call 95;refine(C _ _ _ _ [] _ q t (c.trans ((dR k _).mono c.size)) (Bd.fresh _ k c.size) bq).mono ?_;rintro e Q ⟨rfl,B,o⟩;have v:=(c.trans ((dR k _).mono c.size)).trans o.low)|(go_at_call 96;refine(Tryz.Builder_Len_f W.heap.size _ _ _ B).mono ?_;rintro e R ⟨rfl,rfl⟩;rw[Lib.byteCells_length];simp only[gK]));have V:=(hE.below v).c2
   go_quiet (fail)
   go_wp2_with fail
   go_ret2
   exact⟨GN _ v,.inr (.inl ⟨A.out,u,rfl⟩)⟩
  .have m:((txt n).length:Int)<=10000:=aa;go_enter func51,ntmps51;go_wp2_with(first|(go_at_call 68;refine s.mono ?_;rintro e k ⟨rfl,a⟩;have N:=eD (ak #[.pointer none,aj none 0 0] 187) ((a.cell (aM w)).trans w);have O:=eD (ak #[.pointer none,aj none 0 0] 187) ((a.cell (aM x)).trans x);have P:=eD (ak #[.pointer none,aj none 0 0] 187) ((a.cell (aM y)).trans y);have c:=bf p a)|(go_at_call 95;refine(C _ _ _ _ [] _ q t (c.trans ((dR k _).mono c.size)) (Bd.fresh _ k c.size) bq).mono ?_;rintro e Q ⟨rfl,B,o⟩;have v:=(c.trans ((dR k _).mono c.size)).trans o.low)|(go_at_call 96;refine(Tryz.Builder_Len_f W.heap.size _ _ _ B).mono ?_;rintro e R ⟨rfl,rfl⟩;rw[Lib.byteCells_length];simp only[gK])|(go_at_call 94;refine(Tryz.Builder_String_any_k W.heap.size _ _ _ B v.size).mono ?_;rintro e X ⟨rfl, -,F, -⟩;simp only[gK]))
   go_ret2
   exact⟨v.trans F,.inr (.inr ⟨A.out,aa,rfl⟩)⟩
 .have H:=z.mono (R':=λe w'=>Below (W.alloc (ak #[au ⟨nm.toArray⟩,aj d ats.length f,aj g D.length i] 50)).heap.size (W.alloc (ak #[au ⟨nm.toArray⟩,aj d ats.length f,aj g D.length i] 50)) w'/\Flt E (W.alloc (ak #[au ⟨nm.toArray⟩,aj d ats.length f,aj g D.length i] 50)).heap.size (je n 1 0) e w') (λe w' h=>by
   rcases h.2 with l|l
   .exact(j l.1).elim
   .exact⟨h.1,l.2⟩)
  have A:=aF j;clear z j;go_enter func51,ntmps51;go_wp2_with(go_at_call 68;refine H.mono ?_;rintro e k ⟨a,S,I,rfl,T,U⟩)
  go_ret2
  exact⟨bf p a,.inl ⟨A.out,S,bO p.size I,rfl,T,U⟩⟩
end
open Go.RowKit
theorem bD {w:ai}{B:Nat}{e:TypeId}{k:Nat}{v:ax}{n:Nat}{b:List ax}(h:w.ownsRow B e k v n b):∃o a,v=aj o n a:=by
 rcases h.2 with⟨c,f⟩|⟨g,a,d,c,_⟩
 .grind
 .grind
def bZ:List (Bs×Bs)->List ax
 |[]=>[]
 |x::r=>[au ⟨x.1.toArray⟩,au ⟨x.2.toArray⟩]++bZ r
theorem lW:∀a c:List (Bs×Bs),bZ (a++c)=bZ a++bZ c
 |[],_=>rfl
 |x::a,c=>by simp[bZ,lW a c]
theorem E9 (a:List (Bs×Bs))(x:Bs×Bs):bZ (a++[x])=bZ a++[au ⟨x.1.toArray⟩,au ⟨x.2.toArray⟩]:=by rw[lW];simp[bZ]
theorem zx:∀(M:List (Bs×Bs)) (i:Nat) (x:Bs×Bs),M[i]? =some x->(bZ M)[i*2]? =some (jD x.1)/\(bZ M)[i*2+1]? =some (jD x.2)
 |[],i,x,h=>by simp at h
 |y::r,0,x,h=>by
  simp at h;subst h;exact⟨rfl,rfl⟩
 |y::r,i+1,x,h=>by
  have:=zx r i x (by simpa using h);rw[show(i+1)*2=i*2+1+1 from by omega,show i*2+1+1+1=(i*2+1)+1+1 from rfl];simp only[bZ,gH,gK,List.getElem?_cons_succ];exact this
theorem eF {w:ai}{B k:Nat}{e:TypeId}{v:ax}{n:Nat}{b:List ax}(h:w.ownsRow B e k v n b)(j:Nat)(u:ax)(a:b[j]? =some u):∃g,v.ownBlock=some g/\w.cell? (aJ g j)=some u:=by
 obtain⟨m,c⟩:=h;rcases c with⟨_,c⟩|⟨g,d,f,i,o,p,q,r,s,l⟩
 .grind
 .refine⟨g,by rw[i];rfl,?_⟩;rw[<- l,zg] at a;split at a
  .unfold World.cell?;grind
  .cases a
theorem eT {w:ai}{B k:Nat}{e:TypeId}{v:ax}{n:Nat}{f:List ax}(h:w.ownsRow B e k v n f):∃o a,v=aj o n a/\n<=a/\a<=maxLen/\(o=none->a=0)/\∀g,v.ownBlock=some g->o=some ⟨g,0,none⟩:=by
 rcases h.2 with⟨c,i⟩|⟨g,a,j,d,p,q,l,m,r,s⟩
 .exact⟨none,0,by rw[c,i],aa,aa,λ_=>rfl,λg b=>by rw[c] at b;cases b⟩
 .exact⟨_,a,d,l,m,(λh=>by cases h),(λt b=>by rw[d] at b;cases b;rfl)⟩
theorem dF {w w':ai}{B k n:Nat}{e:TypeId}{v:ax}{d:List ax}(h:w.ownsRow B e k v n d)(hs:∀g,v.ownBlock=some g->w'.heap[g]? =w.heap[g]?):w'.ownsRow B e k v n d:=by
 obtain⟨i,a⟩:=h;refine⟨i,?_⟩;rcases a with a|⟨g,b,c,f,j,l,m⟩
 .exact .inl a
 .exact .inr ⟨g,b,c,f,j,(hs g (by rw[f];rfl)).trans l,m⟩
theorem bY {B k n:Nat}{e:TypeId}{v:ax}{a:List ax}{w w':ai}(h:w.ownsRow B e k v n a)(b:aD w w'):w'.ownsRow B e k v n a:=
 dF h λg c=>b.block g (h.lt g c).2
theorem own_ne {R B k n:Nat}{e:TypeId}{v:ax}{a:List ax}{w:ai}(h:w.ownsRow B e k v n a)(b:R<B):some R≠v.ownBlock:=λe=>by have:=(h.lt R e.symm).1;omega
theorem AA:(prog.info? 145).map (λi=>(i.zero,i.size,i.bytes))=some (some (.agg #[au ⟨#[]⟩,au ⟨#[]⟩]),2,32):=aA
theorem AB:(prog.info? 3).map (λi=>(i.zero,i.size,i.bytes))=some (some (ag 0),1,8):=aA
def NB (N:Nat)(a b c:ax)(w:ai):Prop:=w.heap[N]? =some (ak #[a,b,c] 50)
theorem NB.c0 {N:Nat}{a b c:ax}{w:ai}(h:NB N a b c w):w.cell? (aJ N 0)=some a:=aQ h 0 _ rfl
theorem NB.c1 {N:Nat}{b a c:ax}{w:ai}(h:NB N b a c w):w.cell? (aJ N 1)=some a:=aQ h 1 _ rfl
theorem NB.c2 {N:Nat}{b c a:ax}{w:ai}(h:NB N b c a w):w.cell? (aJ N 2)=some a:=aQ h 2 _ rfl
inductive Tg where
 |doc
 |map
 |el (i:Int)
 |ats (i:Int)
 |kids (i:Int)
abbrev dG:=Nat->Option Tg
def di (l:List Int):List ax:=l.map (Value.int .i64)
theorem Cn (a b:List Int):di (a++b)=di a++di b:=iK
theorem qG (l:List Int):(di l).length=l.length:=dP ..
theorem qH {l:List Int}{j:Nat}{k:Int}(h:l[j]? =some k):(di l)[j]? =some (ag k):=by
 unfold di;grind
abbrev eH (k:Int):Prop:=(Lit.int .i64 k).wf=true
structure BK (B:Nat)(tg:dG)(w:ai)(i:Int)(b:Nat)(e:ig)(va vk:ax):Prop where
 cells:w.heap[b]? =some (ak #[au ⟨e.name.toArray⟩,va,ag e.parent,vk] 147)
 tag:tg b=some (.el i)
 ats:w.ownsRow B 145 2 va e.ats.length (bZ e.ats)
 oC:∀g,va.ownBlock=some g->tg g=some (.ats i)
 kids:w.ownsRow B 3 1 vk e.kids.length (di e.kids)
 jQ:∀g,vk.ownBlock=some g->tg g=some (.kids i)
theorem BK.turn {B:Nat}{c mX:dG}{w w':ai}{i:Int}{b:Nat}{va vk:ax}(h:BK B c w i b e va vk)(hs:∀g t,c g=some t->(t=.el i\/t=.ats i\/t=.kids i)->mX g=some t/\w'.heap[g]? =w.heap[g]?):BK B mX w' i b e va vk where
 cells:=((hs b _ h.tag (.inl rfl)).2).trans h.cells
 tag:=(hs b _ h.tag (.inl rfl)).1
 ats:=dF h.ats λg a=>(hs g _ (h.oC g a) (.inr (.inl rfl))).2
 oC:=λg a=>(hs g _ (h.oC g a) (.inr (.inl rfl))).1
 kids:=dF h.kids λg a=>(hs g _ (h.jQ g a) (.inr (.inr rfl))).2
 jQ:=λg a=>(hs g _ (h.jQ g a) (.inr (.inr rfl))).1
theorem BK.c0 {B:Nat}{a:dG}{w:ai}{i:Int}{b:Nat}{va vk:ax}(h:BK B a w i b e va vk):w.cell? (aJ b 0)=some (au ⟨e.name.toArray⟩):=aQ h.cells 0 _ rfl
theorem BK.c1 {B:Nat}{a:dG}{w:ai}{i:Int}{b:Nat}{va vk:ax}(h:BK B a w i b e va vk):w.cell? (aJ b 1)=some va:=aQ h.cells 1 _ rfl
theorem BK.c2 {B:Nat}{a:dG}{w:ai}{i:Int}{b:Nat}{va vk:ax}(h:BK B a w i b e va vk):w.cell? (aJ b 2)=some (ag e.parent):=aQ h.cells 2 _ rfl
theorem BK.c3 {B:Nat}{a:dG}{w:ai}{i:Int}{b:Nat}{va vk:ax}(h:BK B a w i b e va vk):w.cell? (aJ b 3)=some vk:=aQ h.cells 3 _ rfl
theorem bG {w:ai}{b:Nat}{cs:Array ax}{t:TypeId}(h:w.heap[b]? =some (ak cs t))(i:Nat):w.frozen? ⟨b,i,none⟩=false:=by
 unfold World.frozen?;rw[h];simp
structure dm (B:Nat)(tg:dG)(w:ai)(DB MB:Nat)(p:Int->Option Nat)(M:Dm)(nx c:Nat):Prop where
 doc:w.heap[DB]? =some (ak #[.map (some MB),ag nx] 140)
 mY:tg DB=some .doc
 map:iZ prog 3 w MB p nx c
 mZ:tg MB=some .map
 els:∀i e,M i=some e->∃b va vk,p i=some b/\BK B tg w i b e va vk
 non:∀i,M i=none->p i=none
 low:∀b t,tg b=some t->B<=b/\b<w.heap.size
 dom:∀i e,M i=some e->0<=i/\i<nx
 wf:∀i e,M i=some e->eH e.parent/\∀k∈e.kids,eH k
 few:nx<=1000000
 Xa:∀b i,tg b=some (.el i)\/tg b=some (.ats i)\/tg b=some (.kids i)->i<nx
structure K2 (r n:Nat)(W w:ai):Prop where
 os:w.os=W.os
 tape:w.tape=W.tape
 output:w.output=W.output
 size:W.heap.size<=w.heap.size
 block:∀k,k<W.heap.size->k≠r->k≠n->w.heap[k]? =W.heap[k]?
theorem K2.trans {r n:Nat}{A B C:ai}(h:K2 r n A B)(k:K2 r n B C):K2 r n A C:=
 ⟨k.os.trans h.os,k.tape.trans h.tape,k.output.trans h.output,bO h.size k.size,λi a b c=>(k.block i (fK a h.size) b c).trans (h.block i a b c)⟩
theorem K2.of_below {r n:Nat}{A B:ai}(h:aD A B):K2 r n A B:=⟨h.os,h.tape,h.output,h.size,λi a _ _=>h.block i a⟩
theorem K2.below {r n m:Nat}{A B:ai}(h:K2 r n A B)(a:m<=r)(b:m<=n)(c:m<=A.heap.size):Below m A B:=⟨h.os,h.tape,h.output,h.size,λi d=>h.block i aa aa aa⟩
theorem K2.cell {r n:Nat}{A B:ai}(h:K2 r n A B){b i:Nat}{v:ax}(hc:A.cell? (aJ b i)=some v)(a:b≠r)(c:b≠n):B.cell? (aJ b i)=some v:=by
 rw[qL (h.block b (aM hc) a c)];exact hc
structure KT (tg:dG)(w w':ai):Prop where
 os:w'.os=w.os
 tape:w'.tape=w.tape
 output:w'.output=w.output
 size:w.heap.size<=w'.heap.size
 block:∀b,b<w.heap.size->tg b=none->w'.heap[b]? =w.heap[b]?
theorem KT.of_below {a:dG}{w w':ai}(h:aD w w'):KT a w w':=⟨h.os,h.tape,h.output,h.size,λb c _=>h.block b c⟩
theorem KT.trans {c mX:dG}{w w' a:ai}(h:KT c w w')(k:KT mX w' a)(f:∀b,b<w.heap.size->mX b=c b):KT c w a:=
 ⟨k.os.trans h.os,k.tape.trans h.tape,k.output.trans h.output,bO h.size k.size,λb d e=>(k.block b (fK d h.size) ((f b d).trans e)).trans (h.block b d e)⟩
theorem KT.below {B:Nat}{a:dG}{w w':ai}(h:KT a w w')(c:∀b t,a b=some t->B<=b)(d:B<=w.heap.size):Below B w w':=
 ⟨h.os,h.tape,h.output,h.size,λb e=>h.block b (fK e d) (by
  cases f:a b with
  |none=>rfl
  |some t=>have:=c b t f;omega)⟩
section
variable {B:Nat}{F mX:dG}{w w':ai}{DB I:Nat}{p:Int->Option Nat}{M:Dm}{nx c:Nat}
theorem dm.turn (h:dm B F w DB I p M nx c)(hs:∀g t,F g=some t->w'.heap[g]? =w.heap[g]?)(d:w.heap.size<=w'.heap.size):dm B F w' DB I p M nx c where
 doc:=(hs DB _ h.mY).trans h.doc
 mY:=h.mY
 map:=h.map.same (hs I _ h.mZ)
 mZ:=h.mZ
 els:=λi e f=>by
  obtain⟨b,j,k,l,m⟩:=h.els i e f;exact⟨b,j,k,l,m.turn λg t a _=>⟨a,hs g t a⟩⟩
 non:=h.non
 low:=λb t a=>⟨(h.low b t a).1,fK (h.low b t a).2 d⟩
 dom:=h.dom
 wf:=h.wf
 few:=h.few
 Xa:=h.Xa
theorem dm.below (h:dm B F w DB I p M nx c)(a:aD w w'):dm B F w' DB I p M nx c:=
 h.turn (λg t b=>a.block g (h.low g t b).2) a.size
theorem dm.d0 (h:dm B F w DB I p M nx c):w.cell? (aJ DB 0)=some (.map (some I)):=aQ h.doc 0 _ rfl
theorem dm.d1 (h:dm B F w DB I p M nx c):w.cell? (aJ DB 1)=some (ag nx):=aQ h.doc 1 _ rfl
theorem dm.i64 (h:dm B F w DB I p M nx c){i:Int}{e:ig}(he:M i=some e):eH i:=by
 have:=h.dom i e he;have:=h.few;exact WalkArith.wf_i64 aa
theorem dm.new (h:dm B F w DB I p M nx c){b:Nat}(d:w.heap.size<=b):F b=none:=by
 cases a:F b with
 |none=>rfl
 |some t=>have:=(h.low b t a).2;omega
theorem dm.put (h:dm B F w DB I p M nx c){i:Int}{e l:ig}{b:Nat}{va vk:ax}(hi:M i=some e)(C:p i=some b)(he:BK B mX w' i b l va vk)(_:w.heap.size<=w'.heap.size)(D:eH l.parent/\∀k∈l.kids,eH k)
  (m:∀x,x<w.heap.size->mX x=F x) (s:∀x t,mX x=some t->B<=x/\x<w'.heap.size) (n:∀x,w.heap.size<=x->mX x=none\/mX x=some (.el i)\/mX x=some (.ats i)\/mX x=some (.kids i)) (hs:∀x t,F x=some t->t≠.el i->t≠.ats i->t≠.kids i->w'.heap[x]? =w.heap[x]?):dm B mX w' DB I p (eP M i l) nx c where
 doc:=(hs DB _ h.mY aI aI aI).trans h.doc
 mY:=(m DB (h.low _ _ h.mY).2).trans h.mY
 map:=h.map.same (hs I _ h.mZ aI aI aI)
 mZ:=(m I (h.low _ _ h.mZ).2).trans h.mZ
 els:=λj f d=>by
  unfold eP at d;split at d
  .rename_i a;grind
  .rename_i a;obtain⟨u,o,q,v,y⟩:=h.els j f d;refine⟨u,o,q,v,y.turn λg t n z=>⟨(m g (h.low g t n).2).trans n,hs g t n ?_ ?_ ?_⟩⟩
   all_goals rcases z with rfl|rfl|rfl<;>simp[a]
 non:=λj a=>by
  unfold eP at a;split at a
  .cases a
  .exact h.non j a
 low:=s
 dom:=λj f d=>by
  unfold eP at d;split at d
  .rename_i a;subst a;exact h.dom _ e hi
  .exact h.dom j f d
 wf:=λj f d=>by
  unfold eP at d;split at d
  .grind
  .exact h.wf j f d
 few:=h.few
 Xa:=λx j a=>by
  by_cases A:x<w.heap.size
  .rw[m x A] at a;exact h.Xa x j a
  .have r:j=i:=by grind
   rw[r];exact(h.dom i e hi).2
theorem KT.afC (h:dm B F w DB I p M nx c)(k:K2 DB I w w'):KT F w w':=
 ⟨k.os,k.tape,k.output,k.size,λb d a=>k.block b d (λe=>by rw[e,h.mY] at a;cases a) (λe=>by rw[e,h.mZ] at a;cases a)⟩
end
theorem dA (w:ai):(zeroValue 142).run prog w=.ok (.pointer none) w:=aA
structure Z4 (B:Nat)(tg:dG)(w:ai)(b:Nat)(e:ig)(va vk:ax):Prop where
 cells:w.heap[b]? =some (ak #[au ⟨e.name.toArray⟩,va,ag e.parent,vk] 147)
 low:B<=b
 tag:tg b=none
 ats:w.ownsRow B 145 2 va e.ats.length (bZ e.ats)
 oC:∀g,va.ownBlock=some g->tg g=none/\g≠b
 kids:w.ownsRow B 3 1 vk e.kids.length (di e.kids)
 jQ:∀g,vk.ownBlock=some g->tg g=none/\g≠b/\va.ownBlock≠some g
def pz (a:dG)(i:Int)(b:Nat)(va vk:ax):dG:=λx=>if x=b then some (.el i) else if va.ownBlock=some x then some (.ats i) else if vk.ownBlock=some x then some (.kids i) else a x
theorem GQ {a:dG}{i:Int}{b:Nat}{va vk:ax}{x:Nat}{t:Tg}(h:a x=some t)(c:a b=none)(d:∀g,va.ownBlock=some g->a g=none)(e:∀g,vk.ownBlock=some g->a g=none):pz a i b va vk x=some t:=by
 unfold pz;grind
theorem Co {a:dG}{i:Int}{b:Nat}{va vk:ax}{x:Nat}(c:x≠b)(d:va.ownBlock≠some x)(e:vk.ownBlock≠some x):pz a i b va vk x=a x:=by
 unfold pz;grind
section
variable {B:Nat}{F:dG}{w w':ai}{DB I:Nat}{p:Int->Option Nat}{M:Dm}{nx c:Nat}
theorem dm.add (h:dm B F w DB I p M nx c){b:Nat}{e:ig}{va vk:ax}(a:Z4 B F w b e va vk)(K:eH e.parent/\∀k∈e.kids,eH k)(C:nx<1000000)
  (D:iZ prog 3 w' I (λi=>if i=(nx:Int) then some b else p i) (nx+1) (c+1)) (E:w'.heap[DB]? =some (ak #[.map (some I),ag ((nx+1:Nat):Int)] 140))
  (hs:∀x,x≠DB->x≠I->w'.heap[x]? =w.heap[x]?) (H:w.heap.size<=w'.heap.size):dm B (pz F nx b va vk) w' DB I (λi=>if i=(nx:Int) then some b else p i) (eP M nx e) (nx+1) (c+1):=by
 have q:∀x t,F x=some t->pz F nx b va vk x=some t:=λx t m=>GQ m a.tag (λg d=>(a.oC g d).1) (λg d=>(a.jQ g d).1);have L:∀x t,F x=some t->t≠.doc->t≠.map->x≠DB/\x≠I:=λx t m v y=>⟨λe=>v (fT (m.symm.trans (e▸h.mY))),λe=>y (fT (m.symm.trans (e▸h.mZ)))⟩;have r:∀x,F x=none->x≠DB/\x≠I:=λx u=>⟨λe=>(by rw[e,h.mY] at u;exact absurd u aI),λe=>(by rw[e,h.mZ] at u;exact absurd u aI)⟩;have s:=r b a.tag;refine⟨E,q _ _ h.mY,D,q _ _ h.mZ,λi f l=>?_,λi n=>?_,λx t m=>?_,λi f l=>?_,λi f l=>?_,aa,λx j o=>?_⟩
 .unfold eP at l;by_cases n:i=nx
  .rw[aR n] at l;cases l;subst n;refine⟨b,va,vk,aI,⟨(hs b s.1 s.2).trans a.cells,by unfold pz;rw[aR rfl],dF a.ats λg d=>?_,λg d=>?_,dF a.kids λg d=>?_,λg d=>?_⟩⟩
   .have:=r g (a.oC g d).1;exact hs g this.1 this.2
   .unfold pz;rw[aG (a.oC g d).2,aR d]
   .have:=r g (a.jQ g d).1;exact hs g this.1 this.2
   .unfold pz;rw[aG (a.jQ g d).2.1,aG (a.jQ g d).2.2,aR d]
  .rw[aG n] at l;obtain⟨J,z,A,v,y⟩:=h.els i f l;refine⟨J,z,A,by simp only[aG n];exact v,y.turn λg t m N=>⟨q g t m,?_⟩⟩;grind
 .unfold eP at n;by_cases o:i=nx
  .grind
  .rw[aG o] at n;simp only[aG o];exact h.non i n
 .unfold pz at m;split at m
  .rename_i e;subst e;exact⟨a.low,fK (bu a.cells) H⟩
  .split at m
   .rename_i e;have:=a.ats.lt x e;omega
   .split at m
    .rename_i e;have:=a.kids.lt x e;omega
    .have:=h.low x t m;omega
 .unfold eP at l;by_cases n:i=nx
  .omega
  .rw[aG n] at l;have:=h.dom i f l;omega
 .unfold eP at l;by_cases n:i=nx
  .grind
  .rw[aG n] at l;exact h.wf i f l
 .unfold pz at o;split at o
  .grind
  .split at o
   .grind
   .split at o
    .grind
    .have:=h.Xa x j o;omega
theorem dm.fresh (h:dm B F w DB I p M nx c):M nx=none/\p nx=none:=by
 have:M nx=none:=by
  cases a:M nx with
  |none=>rfl
  |some e=>have:=h.dom nx e a;omega
 exact⟨this,h.non nx this⟩
theorem dm.ne (h:dm B F w DB I p M nx c):I≠DB:=λe=>by have a:=h.mY;rw[<- e,h.mZ] at a;cases a
end
theorem Qq (B:Nat)(m:dG)(w:ai)(DB g:Nat)(p:Int->Option Nat)(M:Dm)(nx c b:Nat)(e:ig)(va vk:ax)(h:dm B m w DB g p M nx c)(A:Z4 B m w b e va vk)(C:eH e.parent/\∀k∈e.kids,eH k)(n:nx<1000000):
  aL 71 #[aK DB,aK b] w λr w'=>r=ay (ag nx)/\K2 DB g w w'/\dm B (pz m nx b va vk) w' DB g (λi=>if i=(nx:Int) then some b else p i) (eP M nx e) (nx+1) (c+1):=by
 have H:=h.d0;have I:=h.d1;have o:=h.fresh;have q:nx<maxLen:=by rw[dD];omega
 have j:=h.ne;go_enter func71,ntmps71;go_wp2_with(at_mapUpdate;refine YS _ rfl _ _ _ 138 rfl underlying3 underlying138 rfl h.map q (nx:Int) rfl (WalkArith.wf_i64 aa) b rfl o.2 ?_;intro f s a;have l:=(a.grown.block DB (bu h.doc) (λe=>j (fT e).symm)).trans h.doc;have J:=aQ l 0 _ rfl;have K:=aQ l 1 _ rfl;have L:=bG l);go_ret;have t:=heap_setCell_same f DB 1 _ _ (ag ((nx:Int)+1)) l;have y:∀x,x≠DB->x≠g->(f.setCell ⟨DB,1,none⟩ (ag ((nx:Int)+1))).heap[x]? =w.heap[x]? :=λx u v=>by
  rw[dw _ _ _ x u];by_cases D:x<w.heap.size
  .exact a.grown.block x D (λe=>v (fT e))
  .have:f.heap.size=w.heap.size:=by obtain⟨N,O,E,F, -,rfl⟩:=a;simp[Go.ChangeMaps.setBlock]
   rw[qK aa,qK aa]
 have z:w.heap.size<=(f.setCell ⟨DB,1,none⟩ (ag ((nx:Int)+1))).heap.size:=by
  have:=a.grown.size;have:=((aW DB f).setCell (p:=⟨DB,1,none⟩) az (ag ((nx:Int)+1))).size;omega
 have d:=(aW DB f).setCell (p:=⟨DB,1,none⟩) az (ag ((nx:Int)+1));refine⟨rfl,⟨d.os.trans a.grown.os,d.tape.trans a.grown.tape,d.output.trans a.grown.output,z,λx _ u v=>y x u v⟩,h.add A C n (s.same (dw _ _ _ g j)) ?_ y z⟩;rw[t];rfl
theorem tX {B:Nat}{g:dG}{w:ai}{DB i:Nat}{p:Int->Option Nat}{M:Dm}{nx c:Nat}(h:dm B g w DB i p M nx c)(n:Int)(d:eH n):
  aL 104 #[aK DB,ag n] w λr w'=>r=ay (au ⟨(match M n with|none=>[]|some e=>e.name).toArray⟩)/\w'=w:=by
 have k:=h.d0;cases f:M n with
 |none=>
  have a:=h.non n f;go_enter func104,ntmps104;go_wp2_with(at_lookup;refine kG _ rfl _ _ 138 rfl underlying3 underlying138 (dA _) rfl h.map n rfl d a ?_);go_ret;exact⟨rfl,rfl⟩
 |some e=>
  obtain⟨b,l,m,a,j⟩:=h.els n e f;have o:=j.c0;go_enter func104,ntmps104;go_wp2_with(at_lookup;refine dJ _ rfl _ _ 138 rfl underlying3 underlying138 (dA _) rfl h.map n rfl d b a ?_);go_ret;exact⟨rfl,rfl⟩
theorem GR {B:Nat}{g:dG}{w:ai}{DB i:Nat}{p:Int->Option Nat}{M:Dm}{nx c:Nat}(h:dm B g w DB i p M nx c)(n:Int)(d:eH n):
  aL 106 #[aK DB,ag n] w λr w'=>r=ay (ag (match M n with|none=> -1|some e=>e.parent))/\w'=w:=by
 have k:=h.d0;cases f:M n with
 |none=>
  have a:=h.non n f;go_enter func106,ntmps106;go_wp2_with(at_lookup;refine kG _ rfl _ _ 138 rfl underlying3 underlying138 (dA _) rfl h.map n rfl d a ?_);go_ret;exact⟨rfl,rfl⟩
 |some e=>
  obtain⟨b,l,m,a,j⟩:=h.els n e f;have o:=j.c2;go_enter func106,ntmps106;go_wp2_with(at_lookup;refine dJ _ rfl _ _ 138 rfl underlying3 underlying138 (dA _) rfl h.map n rfl d b a ?_);go_ret;exact⟨rfl,rfl⟩
theorem Cq {B:Nat}{a:dG}{w:ai}{DB b:Nat}{p:Int->Option Nat}{M:Dm}{nx c:Nat}(h:dm B a w DB b p M nx c):
  aL 204 #[aK DB] w λr w'=>r=ay (ag c)/\w'=w:=by
 have d:=h.d0;go_enter func204,ntmps204;go_wp2_with(at_len;refine a2e _ rfl _ 138 rfl underlying138 rfl h.map ?_);go_ret;exact⟨rfl,rfl⟩
theorem kM:∀l:List (Bs×Bs),(bZ l).length=l.length*2
 |[]=>rfl
 |x::r=>by simp[bZ,kM r];omega
theorem zy:∀(l:List (Bs×Bs)) (j:Nat) (u:ax),(bZ l)[j]? =some u->∃i x,l[i]? =some x/\((j=i*2/\u=au ⟨x.1.toArray⟩)\/(j=i*2+1/\u=au ⟨x.2.toArray⟩))
 |[],j,u,h=>by simp[bZ] at h
 |x::r,0,u,h=>by
  simp[bZ] at h;exact⟨0,x,rfl,.inl ⟨rfl,h.symm⟩⟩
 |x::r,1,u,h=>by
  simp[bZ] at h;exact⟨0,x,rfl,.inr ⟨rfl,h.symm⟩⟩
 |x::r,j+2,u,h=>by
  have a:(bZ r)[j]? =some u:=by simpa[bZ] using h
  obtain⟨i,y,b,c⟩:=zy r j u a;exact⟨i+1,y,by simpa using b,c.imp (λh=>⟨aa,h.2⟩) (λh=>⟨aa,h.2⟩)⟩
theorem GU (l:List (Bs×Bs)):∀u∈bZ l,u.oneCell'=true:=λu a=>by
 obtain⟨j,b⟩:=List.getElem?_of_mem a;obtain⟨i,x, -,⟨-,rfl⟩|⟨-,rfl⟩⟩:=zy l j u b<;>rfl
theorem a2q {w:ai}{a:Addr}(h:Gy w (some a) ats):∀j u,(bZ ats)[j]? =some u->w.cell? (a.add j)=some u:=λj u e=>by
 obtain⟨i,x,f,g⟩:=zy ats j u e;obtain⟨b,c,l,m,n, -⟩:=h i x f;cases l;have d:∀k,(⟨b,c,none⟩:Addr).add k=⟨b,c+k,none⟩:=λk=>by unfold Addr.add;split<;>simp_all
 rw[d];rcases g with⟨rfl,rfl⟩|⟨rfl,rfl⟩
 .exact m
 .rw[<- Nat.add_assoc];exact n
theorem Uo (w:ai)(v:ax)(ats:List (Bs×Bs))(h:rU w v ats)(H:ats.length<=1000000):
  aL 70 #[v] w λe w'=>∃o n k,e=ay (aj o n k)/\w'.ownsRow w.heap.size 145 2 (aj o n k) ats.length (bZ ats)/\aD w w':=by
 obtain⟨o,b,rfl,I,J,r,p⟩:=h;have s:∀(w:ai) (a:Option Addr) (n c d f:Nat),(binOp .eql 47 (aj a n c) (aj none d f)).run prog w=.ok (.bool a.isNone) w:=λw a n c d f=>Lib.run_eql_slice_nil w _ _ a n c d f underlying47;obtain⟨t,x,g,i,l⟩:=info_parts AA;cases o with
 |none=>
  have K:=r rfl;have y:ats=[]:=lu.1 aa;subst y;go_enter func70,ntmps70;go_wp2_with fail;go_ret;exact⟨none,0,0,rfl,gp _ _ _ _,aW _ _⟩
 |some a=>
  have z:Hid (∀j u,(bZ ats)[j]? =some u->w.cell? (a.add j)=some u):=a2q p;have A:Hid (∀u∈bZ ats,u.oneCell'=true):=GU ats;clear p;go_enter func70,ntmps70;go_wp2_with(at_builtin;refine wpList_append_own _ rfl _ _ 47 rfl w.heap.size 145 t (.agg #[au ⟨#[]⟩,au ⟨#[]⟩]) 2 32 underlying47 x g i l rfl aC _ _ _ rfl (World.ownsRow_made w #[] 0 az (bA _) aI) a ats.length b (bZ ats) rfl (kM ats) (λj u B=>eD _ (z.out j u B)) A.out (by rw[dD];omega) aa aI ?_;intro L M q C _;obtain⟨D,E,rfl⟩:=bD q);go_ret;exact⟨D,_,E,rfl,by simpa using q,((aW _ w).alloc az _).grown C aI (λk F=>by have m:some w.heap.size=some k:=F;cases m;exact bJ _)⟩
mutual
def Z5:Nd->Prop
 | .mk _ ats D=>ats.length<=12/\Uq D
def Uq:List Nd->Prop
 |[]=>True
 |k::l=>Z5 k/\Uq l
end
theorem Qr:∀{l:List Nd} {k:Nd},Uq l->k∈l->Z5 k
 |[],_,_,h=>by simp at h
 |a::l,k,h,b=>by
  unfold Uq at h;rcases gP.1 b with rfl|b
  .exact h.1
  .exact Qr h.2 b
mutual
theorem Xb:∀(n:Nd) (a ahead:Nat),(je n a ahead).1=0->Z5 n
 | .mk nm ats D,a,ahead,h=>by
  unfold je at h;split at h
  .rename_i b;unfold Z5;exact⟨(GL b).2.1,Xc D _ _ h⟩
  .rename_i b;exact(b h).elim
theorem Xc:∀(l:List Nd) (a ahead:Nat),(uQ l a ahead).1=0->Uq l
 |[],_,_,_=>by unfold Uq;trivial
 |k::l,a,ahead,h=>by
  by_cases b:(je k a ahead).1=0
  .rw[tQ b] at h;unfold Uq;exact⟨Xb k a ahead b,Xc l _ _ h⟩
  .rw[Az b] at h;exact(b h).elim
end
theorem Qs (D:List Nd)(i:Nat):og (D.take i)<=og D:=by
 have:=Fg (D.take i) (D.drop i);rw[jS] at this;omega
theorem Li {i:Nat}{k:Nd}(h:D[i]? =some k):D.take (i+1)=D.take i++[k]:=by
 rw[eX,h];rfl

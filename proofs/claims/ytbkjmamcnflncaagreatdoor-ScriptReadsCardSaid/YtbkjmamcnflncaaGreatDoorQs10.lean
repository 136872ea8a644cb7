import Derived.Test.YtbkjmamcnflncaaGreatDoorChecked
import Derived.Lib.QuietBelow
import Derived.Test.YtbkjmamcnflncaaGreatDoorQs6
import Derived.Test.YtbkjmamcnflncaaGreatDoorQs1
import Derived.Test.YtbkjmamcnflncaaGreatDoorQs9
namespace Go.Proofs.YtbkjmamcnflncaaGreatDoor
open Go.Proofs.Tryz
set_option maxHeartbeats 8000000
variable{ats:List (Bs×Bs)}{D:List Nd}
section
open Go.RowKit
theorem FP (s:aM):s.data.toList.length=s.size:=Array.length_toList
theorem Ph (s:aM)(i:Nat)(h:i<s.size):s.data.toList[i]'(by rw[FP];exact h)=s[i]:=by simp[ByteArray.getElem_eq_getElem_data]
theorem aeJ (c d:UInt8):(c<=d)↔((c.toNat:Int)<=(d.toNat:Int)):=by rw[UInt8.le_iff_toNat_le];omega
theorem a5V (c d:UInt8):(c<d)↔((c.toNat:Int)<(d.toNat:Int)):=by rw[UInt8.lt_iff_toNat_lt];omega
theorem Jc (c d:UInt8):(c=d)↔((c.toNat:Int)=(d.toNat:Int)):=by rw[<- UInt8.toNat_inj];omega
theorem Eu (c:UInt8):(c.toNat:Int)<=255:=by have:=c.toNat_lt;omega
theorem a5W {s:aM}(h:0<s.size):s.toList.isEmpty=false:=by
 rw[gz,List.isEmpty_eq_false_iff];intro e;have:=FP s;grind
theorem a1r (c:UInt8):DR c=true↔97<=(c.toNat:Int)/\(c.toNat:Int)<=122:=by
 simp only[DR,iW,kZ,aeJ];rfl
theorem a1s (c:UInt8):SQ c=true↔48<=(c.toNat:Int)/\(c.toNat:Int)<=57:=by
 simp only[SQ,iW,kZ,aeJ];rfl
theorem kJ (c:UInt8)(w:ah):aJ 243 #[.int .u8 c.toNat] w λe w'=>e=ax (.bool (DR c))/\w'=w:=by
 have a:=a1r c;generalize DR c=b at a⊢;by_cases d:97<=(c.toNat:Int)
 .by_cases f:(c.toNat:Int)<=122
  .obtain rfl:b=true:=a.2 ⟨d,f⟩;clear a;go_enter func243,ntmps243;go_wp2;go_ret;exact⟨rfl,rfl⟩
  .obtain rfl:b=false:=by cases b with
    |false=>rfl
    |true=>exact(f (a.1 rfl).2).elim
   clear a;go_enter func243,ntmps243;go_wp2;go_ret;exact⟨rfl,rfl⟩
 .obtain rfl:b=false:=by cases b with
   |false=>rfl
   |true=>exact(d (a.1 rfl).1).elim
  clear a;go_enter func243,ntmps243;go_wp2;go_ret;exact⟨rfl,rfl⟩
theorem vT (c:UInt8)(w:ah):aJ 244 #[.int .u8 c.toNat] w λe w'=>e=ax (.bool (SQ c))/\w'=w:=by
 have a:=a1s c;generalize SQ c=b at a⊢;by_cases d:48<=(c.toNat:Int)
 .by_cases f:(c.toNat:Int)<=57
  .obtain rfl:b=true:=a.2 ⟨d,f⟩;clear a;go_enter func244,ntmps244;go_wp2;go_ret;exact⟨rfl,rfl⟩
  .obtain rfl:b=false:=by cases b with
    |false=>rfl
    |true=>exact(f (a.1 rfl).2).elim
   clear a;go_enter func244,ntmps244;go_wp2;go_ret;exact⟨rfl,rfl⟩
 .obtain rfl:b=false:=by cases b with
   |false=>rfl
   |true=>exact(d (a.1 rfl).1).elim
  clear a;go_enter func244,ntmps244;go_wp2;go_ret;exact⟨rfl,rfl⟩
theorem a1t (s:aM):iF s.data.toList=true↔∃e:0<s.size,s.size<=12/\DR s[0]=true/\∀i (h:i<s.size),1<=i->nmB s[i]=true:=by
 have a:=FP s;have k:=λi h=>Ph s i h;constructor
 .intro h;cases b:s.data.toList with
  |nil=>rw[b] at h;simp[iF] at h
  |cons c r=>
   rw[b] at h a;simp only[iF,iW,kZ,List.all_eq_true] at h;grind
 .rintro⟨e,f,l,m⟩;cases b:s.data.toList with
  |nil=>rw[b] at a;simp at a;omega
  |cons c r=>
   rw[b] at a;simp only[iF,iW,kZ,List.all_eq_true];refine⟨⟨by rw[a];exact f,?_⟩,λd g=>?_⟩
   .grind
   .obtain⟨i,n,rfl⟩:=List.mem_iff_getElem.1 g;have j:i+1<s.size:=by grind
    grind
theorem jA (s:aM)(hs:s.size<=9223372036854775807)(w:ah):aJ 177 #[ak s] w λe w'=>e=ax (.bool (iF s.data.toList))/\w'=w:=by
 have n:=a1t s;generalize iF s.data.toList=b at n⊢;have d:Hid ((¬∃j:0<s.size,s.size<=12/\DR s[0]=true/\∀i (h:i<s.size),1<=i->nmB s[i]=true)->b=false):=λh=>by
  cases b with
  |false=>rfl
  |true=>exact(h (n.1 rfl)).elim
 have c:Hid ((∃j:0<s.size,s.size<=12/\DR s[0]=true/\∀i (h:i<s.size),1<=i->nmB s[i]=true)->b=true):=n.2;clear n;by_cases j:0<s.size
 .have hE:=a5W j;have q:¬s.toList=[]:=by intro e;rw[e] at hE;simp at hE
  by_cases B:s.size<=12
  .have r:(s.size:Int)<=12:=aa;cases o:DR s[0] with
   |false=>
    obtain rfl:=d.out (λ⟨_,_,h,_⟩=>by rw[o] at h;cases h);clear d c;go_enter func177,ntmps177;go_wp2_with(go_at_call 243;refine(kJ s[0] _).mono ?_;rw[o];rintro e F ⟨rfl,rfl⟩);go_ret;exact⟨rfl,rfl⟩
   |true=>
    go_enter func177,ntmps177;go_wp2_with(go_at_call 243;refine(kJ s[0] _).mono ?_;rw[o];rintro e F ⟨rfl,rfl⟩)
    go_loop [3] (λy=>∃k:Nat,k<=s.size/\1<=k/\y=ag k/\∀i (h:i<s.size),1<=i->i<k->nmB s[i]=true) (λy=>s.size-(intOf y).toNat)
    case atStart=>exact⟨1,aa,aa,rfl,λi _ a b=>aa⟩
    case round=>
     obtain⟨k,I,t,rfl,f⟩:=hrel;have g:=aA f;clear f;by_cases u:k<s.size
     .have C:(k:Int)<(s.size:Int):=aa;have J:=Eu s[k];cases l:DR s[k] with
      |true=>
       go_wp2_with(go_at_call 243;refine(kJ s[k] _).mono ?_;rw[l];rintro e v ⟨rfl,rfl⟩)
       go_round
       case rel=>exact⟨k+1,aa,aa,by go_num,λi h a b=>by
        by_cases e:i<k
        .exact g.out i h a e
        .obtain rfl:i=k:=aa;simp[nmB,l]⟩
       case measure=>simp[intOf];omega
      |false=>
       cases p:SQ s[k] with
       |true=>
        go_wp2_with(first|(go_at_call 243;refine(kJ s[k] _).mono ?_;rw[l];rintro e v ⟨rfl,rfl⟩)|(go_at_call 244;refine(vT s[k] _).mono ?_;rw[p];rintro e D ⟨rfl,rfl⟩))
        go_round
        case rel=>exact⟨k+1,aa,aa,by go_num,λi h a b=>by
         by_cases e:i<k
         .exact g.out i h a e
         .obtain rfl:i=k:=aa;simp[nmB,p]⟩
        case measure=>simp[intOf];omega
       |false=>
        by_cases m:(s[k].toNat:Int)=45
        .have x:∀w,aJ 243 #[.int .u8 45] w λe w'=>e=ax (.bool false)/\w'=w:=λw=>by have:=kJ 45 w;rwa[show DR 45=false from by decide,show(((45:UInt8).toNat:Nat):Int)=45 from by decide] at this
         have z:∀w,aJ 244 #[.int .u8 45] w λe w'=>e=ax (.bool false)/\w'=w:=λw=>by have:=vT 45 w;rwa[show SQ 45=false from by decide,show(((45:UInt8).toNat:Nat):Int)=45 from by decide] at this
         have A:Hid (nmB s[k]=true):=(by have:s[k]=45:=(Jc _ _).2 (m.trans aC);simp[nmB,this]:nmB s[k]=true);go_wp2_with(first|(go_at_call 243;refine(x _).mono ?_;rintro e v ⟨rfl,rfl⟩)|(go_at_call 244;refine(z _).mono ?_;rintro e D ⟨rfl,rfl⟩))
         go_round
         case rel=>exact⟨k+1,aa,aa,by go_num,λi h a b=>by
          by_cases e:i<k
          .exact g.out i h a e
          .obtain rfl:i=k:=aa;exact A.out⟩
         case measure=>simp[intOf];omega
        .have E:nmB s[k]=false:=by
          have:¬s[k]=45:=λe=>m (((Jc _ _).1 e).trans aC);simp[nmB,l,p,this]
         obtain rfl:=d.out (λ⟨_,_,_,h⟩=>by have:=h k u t;rw[E] at this;cases this);clear d c g E;go_wp2_with(first|(go_at_call 243;refine(kJ s[k] _).mono ?_;rw[l];rintro e v ⟨rfl,rfl⟩)|(go_at_call 244;refine(vT s[k] _).mono ?_;rw[p];rintro e D ⟨rfl,rfl⟩));go_ret;exact⟨rfl,rfl⟩
     .obtain rfl:=c.out ⟨j,B,o,λi h a=>g.out i h a aa⟩;clear d c g;have H:¬(k:Int)<(s.size:Int):=aa;go_wp2_with fail;go_ret;exact⟨rfl,rfl⟩
  .obtain rfl:=d.out (λ⟨_,h,_⟩=>B h);clear d c;have r:12<(s.size:Int):=aa;go_enter func177,ntmps177;go_wp2_with fail;go_ret;exact⟨rfl,rfl⟩
 .obtain rfl:=d.out (λ⟨h,_⟩=>j h);clear d c;have hE:s.toList.isEmpty=true:=by
   rw[gz,List.isEmpty_iff];exact lS.1 (by rw[FP];omega)
  have q:s.toList=[]:=List.isEmpty_iff.1 hE;go_enter func177,ntmps177;go_wp2_with fail;go_ret;exact⟨rfl,rfl⟩
theorem Yh (s:aM):isVal s.data.toList=true↔s.size<=200/\∀i (h:i<s.size),32<=(s[i].toNat:Int)/\(s[i].toNat:Int)<=126:=by
 have b:=FP s;simp only[isVal,iW,kZ,List.all_eq_true,b,Bool.not_eq_true',decide_eq_false_iff_not];refine and_congr_right λ_=>⟨λh i a=>?_,λh c d=>?_⟩
 .have:=h s[i] (by rw[<- Ph s i a];exact List.getElem_mem _);rw[a5V,a5V] at this;grind
 .obtain⟨i,a,rfl⟩:=List.mem_iff_getElem.1 d;rw[b] at a;have:=h i a;rw[Ph s i a,a5V,a5V];grind
theorem D9 (s:aM)(hs:s.size<=9223372036854775807)(w:ah):aJ 210 #[ak s] w λe w'=>e=ax (.bool (isVal s.data.toList))/\w'=w:=by
 have j:=Yh s;generalize isVal s.data.toList=b at j⊢;have d:Hid ((¬(s.size<=200/\∀i (h:i<s.size),32<=(s[i].toNat:Int)/\(s[i].toNat:Int)<=126))->b=false):=λh=>by
  cases b with
  |false=>rfl
  |true=>exact(h (j.1 rfl)).elim
 have a:Hid ((s.size<=200/\∀i (h:i<s.size),32<=(s[i].toNat:Int)/\(s[i].toNat:Int)<=126)->b=true):=j.2;clear j;by_cases m:s.size<=200
 .have l:(s.size:Int)<=200:=aa;go_enter func210,ntmps210;go_wp2_with fail
  go_loop [3] (λy=>∃k:Nat,k<=s.size/\y=ag k/\∀i (h:i<s.size),i<k->32<=(s[i].toNat:Int)/\(s[i].toNat:Int)<=126) (λy=>s.size-(intOf y).toNat)
  case atStart=>exact⟨0,aa,rfl,λi _ b=>aa⟩
  case round=>
   obtain⟨k,q,rfl,c⟩:=hrel;have f:=aA c;clear c;by_cases g:k<s.size
   .have n:(k:Int)<(s.size:Int):=aa;have r:=Eu s[k];by_cases t:(s[k].toNat:Int)<32
    .obtain rfl:=d.out (λh=>by have:=(h.2 k g).1;omega);clear d a f;go_wp2_with fail;go_ret;exact⟨rfl,rfl⟩
    .by_cases u:126<(s[k].toNat:Int)
     .obtain rfl:=d.out (λh=>by have:=(h.2 k g).2;omega);clear d a f;go_wp2_with fail;go_ret;exact⟨rfl,rfl⟩
     .have o:Hid (32<=(s[k].toNat:Int)/\(s[k].toNat:Int)<=126):=⟨aa,aa⟩;go_wp2_with fail
      go_round
      case rel=>exact⟨k+1,aa,by go_num,λi h b=>by
       by_cases e:i<k
       .exact f.out i h e
       .obtain rfl:i=k:=aa;exact o.out⟩
      case measure=>simp[intOf];omega
   .obtain rfl:=a.out ⟨m,λi h=>f.out i h aa⟩;clear d a f;have p:¬(k:Int)<(s.size:Int):=aa;go_wp2_with fail;go_ret;exact⟨rfl,rfl⟩
 .obtain rfl:=d.out (λh=>m h.1);clear d a;have l:200<(s.size:Int):=aa;go_enter func210,ntmps210;go_wp2_with fail;go_ret;exact⟨rfl,rfl⟩
def Ke (c:UInt8):aM:=if c=60 then⟨#[38,108,116,59]⟩ else if c=62 then⟨#[38,103,116,59]⟩ else if c=38 then⟨#[38,97,109,112,59]⟩ else if c=34 then⟨#[38,113,117,111,116,59]⟩ else⟨#[]⟩
theorem qC (c:UInt8)(w:ah):aJ 224 #[.int .u8 c.toNat] w λe w'=>e=ax (ak (Ke c))/\w'=w:=by
 have l:=Eu c;have a:c=60↔(c.toNat:Int)=60:=⟨λh=>((Jc _ _).1 h).trans aC,λh=>(Jc _ _).2 (h.trans aC)⟩;have b:c=62↔(c.toNat:Int)=62:=⟨λh=>((Jc _ _).1 h).trans aC,λh=>(Jc _ _).2 (h.trans aC)⟩;have d:c=38↔(c.toNat:Int)=38:=⟨λh=>((Jc _ _).1 h).trans aC,λh=>(Jc _ _).2 (h.trans aC)⟩;have f:c=34↔(c.toNat:Int)=34:=⟨λh=>((Jc _ _).1 h).trans aC,λh=>(Jc _ _).2 (h.trans aC)⟩;unfold Ke;simp only[a,b,d,f];clear a b d f;generalize (c.toNat:Int)=x at*;by_cases g:x=60
 .subst g;go_enter func224,ntmps224;go_wp2;go_ret;exact⟨rfl,rfl⟩
 .rw[if_neg g];by_cases i:x=62
  .subst i;go_enter func224,ntmps224;go_wp2;go_ret;exact⟨rfl,rfl⟩
  .rw[if_neg i];by_cases j:x=38
   .subst j;go_enter func224,ntmps224;go_wp2;go_ret;exact⟨rfl,rfl⟩
   .rw[if_neg j];by_cases k:x=34
    .subst k;go_enter func224,ntmps224;go_wp2;go_ret;exact⟨rfl,rfl⟩
    .rw[if_neg k];go_enter func224,ntmps224;go_wp2;go_ret;exact⟨rfl,rfl⟩
def jq (s:Bs):au:=ak ⟨s.toArray⟩
theorem ic (s:Bs):(⟨s.toArray⟩:aM).size=s.length:=by simp[ByteArray.size]
def FQ (w:ah)(o:Option Addr)(ats:List (Bs×Bs)):Prop:=∀i x,ats[i]? =some x->∃b a,o=some ⟨b,a,none⟩/\w.cell? (aH b (a+i*2))=some (jq x.1)/\w.cell? (aH b (a+i*2+1))=some (jq x.2)/\x.1.length<=maxLen/\x.2.length<=maxLen
def qU (w:ah)(v:au)(ats:List (Bs×Bs)):Prop:=∃o a,v=aj o ats.length a/\ats.length<=a/\a<=maxLen/\(o=none->a=0)/\FQ w o ats
mutual
def rJ (w:ah)(c d e:au):Nd->Prop
 | .mk b ats D=>c=jq b/\b.length<=maxLen/\qU w d ats/\∃o a,e=aj o D.length a/\D.length<=a/\a<=maxLen/\(o=none->a=0)/\mY w o 0 D
def mY (w:ah)(o:Option Addr)(i:Nat):List Nd->Prop
 |[]=>True
 |k::l=>(∃b a c d e,o=some ⟨b,a,none⟩/\w.cell? (aH b (a+i*3))=some c/\w.cell? (aH b (a+i*3+1))=some d/\w.cell? (aH b (a+i*3+2))=some e/\rJ w c d e k)/\mY w o (i+1) l
end
theorem aK {w:ah}{a:Addr}{v:au}(h:w.cell? a=some v):a.block<w.heap.size:=by
 rcases Nat.lt_or_ge a.block w.heap.size with b|b
 .exact b
 .simp[World.cell?,qd b] at h
theorem FQ.below {w w':ah}{o:Option Addr}(h:FQ w o ats)(c:aD w w'):FQ w' o ats:=λi x f=>by
 obtain⟨b,a,g,d,e,j⟩:=h i x f;exact⟨b,a,g,(c.cell (aK d)).trans d,(c.cell (aK e)).trans e,j⟩
theorem qU.below {w w':ah}{v:au}(h:qU w v ats)(b:aD w w'):qU w' v ats:=by
 obtain⟨o,a,c,d,e,f,g⟩:=h;exact⟨o,a,c,d,e,f,g.below b⟩
mutual
theorem rJ.below {w w':ah}(b:aD w w'):∀{c d e:au} (n:Nd),rJ w c d e n->rJ w' c d e n
 |_,_,_,.mk _ _ D,h=>by
  unfold rJ at h⊢;obtain⟨f,g,i,o,a,j,k,l,m,p⟩:=h;exact⟨f,g,i.below b,o,a,j,k,l,m,mY.below b D p⟩
theorem mY.below {w w':ah}(a:aD w w'):∀{o:Option Addr} {i:Nat} (l:List Nd),mY w o i l->mY w' o i l
 |_,_,[],_=>by unfold mY;trivial
 |_,_,k::l,h=>by
  unfold mY at h⊢;obtain⟨⟨b,c,g,j,m,n,d,e,f,p⟩,q⟩:=h;exact⟨⟨b,c,g,j,m,n,(a.cell (aK d)).trans d,(a.cell (aK e)).trans e,(a.cell (aK f)).trans f,rJ.below a k p⟩,mY.below a l q⟩
end
theorem mY.get {w:ah}{o:Option Addr}:∀{l:List Nd} {i j:Nat} {k:Nd},mY w o i l->l[j]? =some k->∃b off c d e,o=some ⟨b,off,none⟩/\w.cell? (aH b (off+(i+j)*3))=some c/\w.cell? (aH b (off+(i+j)*3+1))=some d/\w.cell? (aH b (off+(i+j)*3+2))=some e/\rJ w c d e k
 |[],_,_,_,_,a=>by simp at a
 |k::l,i,j,f,h,a=>by
  unfold mY at h;cases j with
  |zero=>simp at a;subst a;exact h.1
  |succ j=>
   have:=mY.get (i:=i+1) (j:=j) h.2 (by simpa using a);rw[show i+1+j=i+(j+1) from by omega] at this;exact this
theorem Pj:prog.cellsOf 9=1:=az
section
variable {H:Type}{enc:TypeId×au->H}{w:ah}{F:Nat}{I:Nat->Bool}{J:Bool}
end
theorem dh:maxLen=9223372036854775807:=aC
def atV (x:Bs×Bs):au:=.agg #[jq x.1,jq x.2]
theorem aW {W A w:ah}(h:aD W A)(a:aD A w):aD W w:=h.trans (a.mono h.size)
theorem dQ {W:ah}{a:Addr}{v:au}(o:Obj)(h:W.cell? a=some v):(W.alloc o).cell? a=some v:=(((aQ W.heap.size W).alloc ay o).cell (aK h)).trans h
theorem M7 (x:Bs×Bs)(nm:Bs)(B:Nat)(W:ah)(a:W.cell? (aH B 0)=some (jq nm)):
  aJ 246 #[atV x,aI B] W λe w'=>e=ax (.bool (x.1==nm))/\aD W w':=by
 have b:=λo=>dQ o a;unfold atV jq at*;go_enter func246,ntmps246;go_wp2;go_ret;exact⟨rfl,(aQ _ W).alloc ay _⟩
def fI (nm:Bs):Nat->List (Bs×Bs)->Int
 |_,[]=> -1
 |k,x::r=>if(x.1==nm)=true then k else fI nm (k+1) r
theorem a1u (nm:Bs):∀(l:List (Bs×Bs)) (k:Nat),decide (0<=fI nm k l)=l.any (λx=>x.1==nm)
 |[],_=>rfl
 |x::r,k=>by
  unfold fI;cases a:(x.1==nm) with
  |true=>simp[a]
  |false=>simp only[Bool.false_eq_true,if_false,List.any_cons,a,Bool.false_or];exact a1u nm r (k+1)
theorem drop_at {a:Type}{l:List a}{k:Nat}(h:k<l.length):∃x,l[k]? =some x/\l.drop k=x::l.drop (k+1):=⟨l[k],eZ h,(List.getElem_cons_drop h).symm⟩
theorem Jd (ats:List (Bs×Bs))(nm:Bs)(B:Nat)(v:au)(W:ah)(h:qU W v ats)(t:W.cell? (aH B 0)=some (jq nm)):
  aJ 277 #[v,.func (.func 246) #[] #[aI B]] W λe w'=>e=ax (ag (fI nm 0 ats))/\aD W w':=by
 obtain⟨o,E,rfl,O,F,H,m⟩:=h;have u:(ats.length:Int)<=9223372036854775807:=by rw[dh] at F;omega
 by_cases I:ats.length=0
 .obtain rfl:ats=[]:=lS.1 I;clear m;go_enter func277,ntmps277;go_wp2_with fail
  go_loopw [8] (λy wr=>y=ag 0/\wr=W) (λ_ _=>0)
  case atStart=>exact⟨rfl,rfl⟩
  case round=>
   obtain⟨rfl,rfl⟩:=hrel;go_wp2_with fail;go_ret;exact⟨rfl,aQ _ _⟩
 .obtain⟨w,i, -⟩:=drop_at (l:=ats) (k:=0) aa;obtain⟨b,J,rfl, -⟩:=m 0 w i;have K:=aA m;clear m i H w;go_enter func277,ntmps277;go_wp2_with fail
  go_loopw [8] (λy wr=>∃k:Nat,k<=ats.length/\y=ag k/\fI nm 0 ats=fI nm k (ats.drop k)/\aD W wr) (λy _=>ats.length-(intOf y).toNat)
  case atStart=>exact⟨0,bf _,rfl,rfl,aQ _ _⟩
  case round=>
   obtain⟨k,P,rfl,c,f⟩:=hrel;by_cases p:k<ats.length
   .have z:(k:Int)<(ats.length:Int):=aa;obtain⟨x,A,C⟩:=drop_at p;obtain⟨Q,D,e,q,r, -⟩:=K.out k x A;simp only[Option.some.injEq,Addr.mk.injEq,and_true] at e;obtain⟨rfl,rfl⟩:=e;have L:=(f.cell (aK q)).trans q;have M:=(f.cell (aK r)).trans r;have s:=(f.cell (aK t)).trans t;have n:=M7 x nm B wr s;rw[C] at c;clear q r A C;unfold jq at L M;cases g:(x.1==nm) with
    |true=>
     rw[g] at n;have a:Hid (fI nm 0 ats=k):=(by rw[c];unfold fI;rw[if_pos g]:fI nm 0 ats=k);clear c g;go_wp2_with(go_at_call 246;refine n.mono ?_;rintro e N ⟨rfl,d⟩);go_ret;exact⟨by rw[a.out];rfl,aW f d⟩
    |false=>
     rw[g] at n;have j:fI nm k (x::ats.drop (k+1))=fI nm (k+1) (ats.drop (k+1)):=by rw[fI,if_neg (by rw[g];simp)]
     have a:Hid (fI nm 0 ats=fI nm (k+1) (ats.drop (k+1))):=c.trans j;clear j;clear c g;go_wp2_with(go_at_call 246;refine n.mono ?_;rintro e N ⟨rfl,d⟩)
     go_roundw
     case rel=>exact⟨k+1,aa,by go_num,a.out,aW f d⟩
     case measure=>simp[intOf];omega
   .obtain rfl:k=ats.length:=aa;have a:Hid (fI nm 0 ats= -1):=(by rw[c,List.drop_length];rfl:fI nm 0 ats= -1);clear c;go_wp2_with fail;go_ret;exact⟨by rw[a.out];rfl,f⟩
theorem Bq (ats:List (Bs×Bs))(nm:Bs)(B:Nat)(v:au)(W:ah)(h:qU W v ats)(c:W.cell? (aH B 0)=some (jq nm)):
  aJ 245 #[v,.func (.func 246) #[] #[aI B]] W λe w'=>e=ax (.bool (ats.any (λx=>x.1==nm)))/\aD W w':=by
 have b:=Jd ats nm B v W h c;rw[<- a1u nm ats 0];generalize fI nm 0 ats=z at b⊢;go_enter func245,ntmps245;go_wp2_with(go_at_call 277;refine b.mono ?_;rintro e d ⟨rfl,a⟩);go_ret;exact⟨rfl,a⟩
structure CE (E:Nat->Addr)(w:ah):Prop where
 c4:w.cell? (aH 3 0)=some (aP 453 (.pointer (some (E 4))))
 c6:w.cell? (aH 5 0)=some (aP 453 (.pointer (some (E 6))))
 c7:w.cell? (aH 6 0)=some (aP 453 (.pointer (some (E 7))))
 c8:w.cell? (aH 7 0)=some (aP 453 (.pointer (some (E 8))))
 c10:w.cell? (aH 9 0)=some (aP 453 (.pointer (some (E 10))))
theorem CE.below {E:Nat->Addr}{w w':ah}(h:CE E w)(a:aD w w'):CE E w' where
 c4:=(a.cell (aK h.c4)).trans h.c4
 c6:=(a.cell (aK h.c6)).trans h.c6
 c7:=(a.cell (aK h.c7)).trans h.c7
 c8:=(a.cell (aK h.c8)).trans h.c8
 c10:=(a.cell (aK h.c10)).trans h.c10
structure ME (E:Nat->Addr)(w:ah):Prop where
 c2:w.cell? (aH 0 0)=some (aP 453 (.pointer (some (E 2))))
 c4:w.cell? (aH 3 0)=some (aP 453 (.pointer (some (E 4))))
 c6:w.cell? (aH 5 0)=some (aP 453 (.pointer (some (E 6))))
 c7:w.cell? (aH 6 0)=some (aP 453 (.pointer (some (E 7))))
 c8:w.cell? (aH 7 0)=some (aP 453 (.pointer (some (E 8))))
 c10:w.cell? (aH 9 0)=some (aP 453 (.pointer (some (E 10))))
theorem ME.below {E:Nat->Addr}{w w':ah}(h:ME E w)(a:aD w w'):ME E w' where
 c2:=(a.cell (aK h.c2)).trans h.c2
 c4:=(a.cell (aK h.c4)).trans h.c4
 c6:=(a.cell (aK h.c6)).trans h.c6
 c7:=(a.cell (aK h.c7)).trans h.c7
 c8:=(a.cell (aK h.c8)).trans h.c8
 c10:=(a.cell (aK h.c10)).trans h.c10
theorem ME.ce {E:Nat->Addr}{w:ah}(h:ME E w):CE E w:=⟨h.c4,h.c6,h.c7,h.c8,h.c10⟩
def Yi (E:Nat->Addr)(c:Nat):au:=if c=0 then aU else aP 453 (.pointer (some (E c)))
theorem wW (E:Nat->Addr):Yi E 0=aU:=rfl
theorem lu (E:Nat->Addr){c:Nat}(h:c≠0):Yi E c=aP 453 (.pointer (some (E c))):=by unfold Yi;rw[if_neg h]
def Ty (ahead:List (Bs×Bs))(a:Bs×Bs):Nat:=if iF a.1=true then(if ahead.any (λx=>x.1==a.1)=true then 6 else if isVal a.2=true then 0 else 10) else 4
theorem dI (W:ah)(o:Obj):aD W (W.alloc o):=(aQ W.heap.size W).alloc ay o
theorem jZ (W:ah)(cs:Array au)(t:TypeId)(i:Nat)(v:au)(h:cs[i]? =some v):(W.alloc (ai cs t)).cell? ⟨W.heap.size,i,none⟩=some v:=by
 have e:(W.alloc (ai cs t)).heap[W.heap.size]? =some (ai cs t):=by show(W.heap.push (ai cs t))[W.heap.size]? =_;simp
 unfold World.cell?;grind
theorem xZ (E:Nat->Addr)(a:Bs×Bs)(ats:List (Bs×Bs))(v:au)(W:ah)(hE:CE E W)(h:qU W v ats)(r:a.1.length<=maxLen)(s:a.2.length<=maxLen):
  aJ 178 #[atV a,v] W λe w'=>e=ax (Yi E (Ty ats a))/\aD W w':=by
 have d:=dI W (ai #[ak ⟨a.1.toArray⟩,ak ⟨a.2.toArray⟩] 145);have t:=jZ W #[ak ⟨a.1.toArray⟩,ak ⟨a.2.toArray⟩] 145 0 _ rfl;have f:=jZ W #[ak ⟨a.1.toArray⟩,ak ⟨a.2.toArray⟩] 145 1 _ rfl;have g:=jA ⟨a.1.toArray⟩ (by rw[ic,<- dh];exact r) (W.alloc (ai #[ak ⟨a.1.toArray⟩,ak ⟨a.2.toArray⟩] 145));have i:=Bq ats a.1 W.heap.size v _ (h.below d) t;have j:=λV=>D9 ⟨a.2.toArray⟩ (by rw[ic,<- dh];exact s) V;have c:=hE.below d;obtain⟨o,u,rfl,_,_,_,_⟩:=h;have k:=c.c4;unfold Ty;unfold atV jq;cases m:iF a.1 with
 |false=>
  rw[show iF (⟨a.1.toArray⟩:aM).data.toList=false from m] at g;rw[if_neg aG,lu E aC];clear i j f;go_enter func178,ntmps178;go_wp2_with(go_at_call 177;refine g.mono ?_;rintro e l ⟨rfl,rfl⟩);go_ret;exact⟨rfl,d⟩
 |true=>
  rw[show iF (⟨a.1.toArray⟩:aM).data.toList=true from m] at g;rw[if_pos rfl];cases n:ats.any (λx=>x.1==a.1) with
  |true=>
   rw[n] at i;rw[if_pos rfl,lu E aC];clear j f k;go_enter func178,ntmps178;go_wp2_with(first|(go_at_call 177;refine g.mono ?_;rintro e l ⟨rfl,rfl⟩)|(go_at_call 245;refine i.mono ?_;rintro e p ⟨rfl,b⟩;have A:=(c.below b).c6));go_ret;exact⟨rfl,aW d b⟩
  |false=>
   rw[n] at i;rw[if_neg aG];cases q:isVal a.2 with
   |true=>
    rw[show isVal (⟨a.2.toArray⟩:aM).data.toList=true from q] at j;rw[if_pos rfl,wW];clear k;go_enter func178,ntmps178;go_wp2_with(first|(go_at_call 177;refine g.mono ?_;rintro e l ⟨rfl,rfl⟩)|(go_at_call 245;refine i.mono ?_;rintro e p ⟨rfl,b⟩;have w:=(b.cell (aK f)).trans f)|(go_at_call 210;refine(j _).mono ?_;rintro e y ⟨rfl,rfl⟩));go_ret;exact⟨rfl,aW d b⟩
   |false=>
    rw[show isVal (⟨a.2.toArray⟩:aM).data.toList=false from q] at j;rw[if_neg aG,lu E aC];clear k;go_enter func178,ntmps178;go_wp2_with(first|(go_at_call 177;refine g.mono ?_;rintro e l ⟨rfl,rfl⟩)|(go_at_call 245;refine i.mono ?_;rintro e p ⟨rfl,b⟩;have w:=(b.cell (aK f)).trans f;have z:=(c.below b).c10)|(go_at_call 210;refine(j _).mono ?_;rintro e y ⟨rfl,rfl⟩));go_ret;exact⟨rfl,aW d b⟩
set_option maxRecDepth 20000
def DX:List (Bs×Bs)->List (Bs×Bs)->Nat
 |_,[]=>0
 |pre,a::r=>if Ty pre a=0 then DX (pre++[a]) r else Ty pre a
def ck1 (nm:Bs)(ats:List (Bs×Bs))(a ahead:Nat):Nat:=if 10<a then 8 else if 100<=ahead then 7 else if iF nm=true then(if 12<ats.length then 7 else DX [] ats) else 4
theorem a1v {k:Nat}{x:Bs×Bs}(a:ats[k]? =some x)(b:ats.drop k=x::ats.drop (k+1))(h:Ty (ats.take k) x=0):DX (ats.take k) (ats.drop k)=DX (ats.take (k+1)) (ats.drop (k+1)):=by
 rw[b,DX,if_pos h,dS,a];rfl
theorem qU.take {w:ah}{b off a:Nat}(k:Nat)(d:k<=ats.length)(hc:ats.length<=a)(f:a<=maxLen)(h:FQ w (some ⟨b,off,none⟩) ats):qU w (aj (some ⟨b,off,none⟩) k a) (ats.take k):=
 ⟨some ⟨b,off,none⟩,a,by rw[iV,Nat.min_eq_left d],by rw[iV];omega,f,(λe=>nomatch e),λi x c=>h i x (by rw[AV] at c;split at c;exact c;cases c)⟩
theorem Yj (E:Nat->Addr)(nm:Bs)(ats:List (Bs×Bs))(r s a b off:Nat)(t:Option Addr)(l ahead:Nat)(W:ah)(hE:CE E W)(h4:FQ W (some ⟨b,off,none⟩) ats)(hc:ats.length<=a)(hm:a<=maxLen)(hl:nm.length<=maxLen)
  (hd:l<=10) (ha:ahead<100) (hn:iF nm=true) (a6:ats.length<=12):
  aJ 118 #[.agg #[jq nm,aj (some ⟨b,off,none⟩) ats.length a,aj t r s],ag l,ag ahead] W λe w'=>e=ax (Yi E (DX [] ats))/\aD W w':=by
 have I:=dI W (ai #[ak ⟨nm.toArray⟩,aj (some ⟨b,off,none⟩) ats.length a,aj t r s] 50);have n0:=jZ W #[ak ⟨nm.toArray⟩,aj (some ⟨b,off,none⟩) ats.length a,aj t r s] 50 0 (ak ⟨nm.toArray⟩) rfl;have J:=jZ W #[ak ⟨nm.toArray⟩,aj (some ⟨b,off,none⟩) ats.length a,aj t r s] 50 1 (aj (some ⟨b,off,none⟩) ats.length a) rfl;have K:=jA ⟨nm.toArray⟩ (by rw[ic,<- dh];exact hl) (W.alloc (ai #[ak ⟨nm.toArray⟩,aj (some ⟨b,off,none⟩) ats.length a,aj t r s] 50));rw[show iF (⟨nm.toArray⟩:aM).data.toList=true from hn] at K;have L:=aA h4;have HE:=aA hE;clear h4 hE hn;unfold jq;go_enter func118,ntmps118;go_wp2_with(go_at_call 177;refine K.mono ?_;rintro e w1 ⟨rfl,rfl⟩);clear K;obtain⟨W1,v⟩:∃V,W.alloc (ai #[ak ⟨nm.toArray⟩,aj (some ⟨b,off,none⟩) ats.length a,aj t r s] 50)=V:=⟨_,rfl⟩;rw[v] at I n0 J⊢;clear v
 go_loopw [33] (λy wr=>∃k:Nat,k<=ats.length/\y=ag k/\DX [] ats=DX (ats.take k) (ats.drop k)/\aD W1 wr) (λy _=>ats.length-(intOf y).toNat)
 case atStart=>exact⟨0,bf _,rfl,rfl,aQ _ _⟩
 case round=>
  obtain⟨k,hk,rfl,hf,F⟩:=hrel;have M:=aA hf;clear hf;by_cases N:k<ats.length
  .have a4:(k:Int)<(ats.length:Int):=aa;have a7:(k:Int)<=(a:Int):=aa;obtain⟨x,O,w⟩:=drop_at N;obtain⟨b',a5,e,P,Q,R,S⟩:=L.out k x O;simp only[Option.some.injEq,Addr.mk.injEq,and_true] at e;obtain⟨rfl,rfl⟩:=e;have m:=aW I F;have k0:=(m.cell (aK P)).trans P;have k1:=(m.cell (aK Q)).trans Q;have m1:=(F.cell (aK J)).trans J;clear P Q;unfold jq at k0 k1;have T:Hid (ats[k]? =some x/\ats.drop k=x::ats.drop (k+1)):=⟨O,w⟩;clear O w;have A:=jZ wr #[ak ⟨x.1.toArray⟩,ak ⟨x.2.toArray⟩] 145 0 (ak ⟨x.1.toArray⟩) rfl;have B:=jZ wr #[ak ⟨x.1.toArray⟩,ak ⟨x.2.toArray⟩] 145 1 (ak ⟨x.2.toArray⟩) rfl;have C:=dQ (ai #[ak ⟨x.1.toArray⟩,ak ⟨x.2.toArray⟩] 145) m1;have n:=dI wr (ai #[ak ⟨x.1.toArray⟩,ak ⟨x.2.toArray⟩] 145);go_upto_region 12 with fail;obtain⟨U,hU⟩:∃V,wr.alloc (ai #[ak ⟨x.1.toArray⟩,ak ⟨x.2.toArray⟩] 145)=V:=⟨_,rfl⟩;rw[hU] at A B C n⊢;clear hU k0 k1 m1;have g:=R;have h:=S;by_cases i:Ty (ats.take k) x=0
   .have u:∀d c,aJ 178 #[.agg #[ak ⟨x.1.toArray⟩,ak ⟨x.2.toArray⟩],aj (some ⟨b,off,none⟩) k a] (Go.Sort.grow (redrawn U d) c) λe o=>e=ax aU/\∃p:Regrown,o=Go.Sort.grow (redrawn U p.d) p.os:=λd c=>by
     have:=xZ E x (ats.take k) (aj (some ⟨b,off,none⟩) k a) (Go.Sort.grow (redrawn U d) c) (HE.out.below (aW (aW m n) (below_regrown U d c))) (qU.take k hk hc hm (L.out.below (aW (aW m n) (below_regrown U d c)))) g h;rw[i,wW] at this;exact Calls.regrown_of this
    have H:Hid (DX [] ats=DX (ats.take (k+1)) (ats.drop (k+1))):=M.out.trans (a1v T.out.1 T.out.2 i);clear i R S g h;have X:=cell_regrown A;have Y:=cell_regrown B;have Z:=cell_regrown C;refine wp_region_quiet_below az az ?_
    repeat(quiet_step (first|(go_at_call 178;exact u _ _)))
    refine wpQuiet_nil ?_;intro _ q;obtain⟨j,f⟩:=q;subst f;clear X Y Z u A B C;have D:=aW (aW F n) (below_regrown U j.d j.os);generalize Go.Sort.grow (redrawn U j.d) j.os=V at D⊢;go_wp2_with fail
    go_roundw
    case rel=>exact⟨k+1,aa,by go_num,H.out,D⟩
    case measure=>simp[intOf];omega
   .have u:∀d c,aJ 178 #[.agg #[ak ⟨x.1.toArray⟩,ak ⟨x.2.toArray⟩],aj (some ⟨b,off,none⟩) k a] (Go.Sort.grow (redrawn U d) c) λe o=>e=ax (aP 453 (.pointer (some (E (Ty (ats.take k) x)))))/\∃p:Regrown,o=Go.Sort.grow (redrawn U p.d) p.os:=λd c=>by
     have:=xZ E x (ats.take k) (aj (some ⟨b,off,none⟩) k a) (Go.Sort.grow (redrawn U d) c) (HE.out.below (aW (aW m n) (below_regrown U d c))) (qU.take k hk hc hm (L.out.below (aW (aW m n) (below_regrown U d c)))) g h;rw[lu E i] at this;exact Calls.regrown_of this
    have H:Hid (DX [] ats=Ty (ats.take k) x):=(by rw[M.out,T.out.2,DX,if_neg i]:DX [] ats=Ty (ats.take k) x);have HP:=aA i;clear i R S g h;generalize Ty (ats.take k) x=z at u H HP;have X:=cell_regrown A;have Y:=cell_regrown B;have Z:=cell_regrown C;refine wp_region_quiet_below az az ?_
    repeat(quiet_step (first|(go_at_call 178;exact u _ _)))
    refine wpQuiet_nil ?_;intro _ q;obtain⟨j,f⟩:=q;subst f;clear X Y Z u A B C;have D:=aW (aW m n) (below_regrown U j.d j.os);generalize Go.Sort.grow (redrawn U j.d) j.os=V at D⊢;go_wp2_with fail;go_ret;exact⟨by rw[H.out,lu E HP.out];rfl,D⟩
  .obtain rfl:k=ats.length:=aa;have i:Hid (DX [] ats=0):=(by rw[M.out,List.drop_length];rfl:DX [] ats=0);go_wp2_with fail;go_ret;exact⟨by rw[i.out];rfl,aW I F⟩
theorem M8 (E:Nat->Addr)(nm:Bs)(ats:List (Bs×Bs))(D:List Nd)(w x:au)(a ahead:Nat)(W:ah)(hE:CE E W)(h:rJ W (jq nm) w x (.mk nm ats D))(J:a<=1000)(K:ahead<=1000):
  aJ 118 #[.agg #[jq nm,w,x],ag a,ag ahead] W λe w'=>e=ax (Yi E (ck1 nm ats a ahead))/\aD W w':=by
 unfold rJ at h;obtain⟨-,z,⟨o,c,rfl,L,A,R,n⟩,i,j,rfl, -⟩:=h;generalize D.length=m;have g:=dI W (ai #[ak ⟨nm.toArray⟩,aj o ats.length c,aj i m j] 50);have B:=jZ W #[ak ⟨nm.toArray⟩,aj o ats.length c,aj i m j] 50 0 (ak ⟨nm.toArray⟩) rfl;have p:=jZ W #[ak ⟨nm.toArray⟩,aj o ats.length c,aj i m j] 50 1 (aj o ats.length c) rfl;have f:=jA ⟨nm.toArray⟩ (by rw[ic,<- dh];exact z) (W.alloc (ai #[ak ⟨nm.toArray⟩,aj o ats.length c,aj i m j] 50));have d:=hE.below g;have q:(ats.length:Int)<=9223372036854775807:=by rw[dh] at A;omega
 unfold ck1;by_cases C:10<a
 .rw[if_pos C,lu E aC];have r:10<(a:Int):=aa;have S:=d.c8;clear f p B;unfold jq;go_enter func118,ntmps118;go_wp2_with fail;go_ret;exact⟨rfl,g⟩
 .rw[if_neg C];have r:(a:Int)<=10:=aa;by_cases F:100<=ahead
  .rw[if_pos F,lu E aC];have s:100<=(ahead:Int):=aa;have M:=d.c7;clear f p B;unfold jq;go_enter func118,ntmps118;go_wp2_with fail;go_ret;exact⟨rfl,g⟩
  .rw[if_neg F];have s:(ahead:Int)<100:=aa;cases t:iF nm with
   |false=>
    rw[show iF (⟨nm.toArray⟩:aM).data.toList=false from t] at f;rw[if_neg aG,lu E aC];have T:=d.c4;clear p;unfold jq;go_enter func118,ntmps118;go_wp2_with(go_at_call 177;refine f.mono ?_;rintro e H ⟨rfl,rfl⟩);go_ret;exact⟨rfl,g⟩
   |true=>
    rw[show iF (⟨nm.toArray⟩:aM).data.toList=true from t] at f;rw[if_pos rfl];by_cases I:12<ats.length
    .rw[if_pos I,lu E aC];have N:12<(ats.length:Int):=aa;have M:=d.c7;unfold jq;go_enter func118,ntmps118;go_wp2_with(go_at_call 177;refine f.mono ?_;rintro e H ⟨rfl,rfl⟩);go_ret;exact⟨rfl,g⟩
    .rw[if_neg I];by_cases O:ats.length=0
     .obtain rfl:ats=[]:=lS.1 O;rw[show DX [] []=0 from rfl,wW];clear n q;unfold jq;go_enter func118,ntmps118;go_wp2_with(go_at_call 177;refine f.mono ?_;rintro e H ⟨rfl,rfl⟩)
      go_loopw [33] (λy wr=>y=ag 0/\aD W wr) (λ_ _=>0)
      case atStart=>exact⟨rfl,g⟩
      case round=>
       obtain⟨rfl,P⟩:=hrel;go_wp2_with fail;go_ret;exact⟨rfl,P⟩
     .obtain⟨Q,u, -⟩:=drop_at (l:=ats) (k:=0) aa;obtain⟨b,v,rfl, -⟩:=n 0 Q u;exact Yj E nm ats m j c b v i a ahead W hE n L A z aa aa t aa
structure dR (b:Nat)(W w:ah):Prop where
 os:w.os=W.os
 tape:w.tape=W.tape
 output:w.output=W.output
 size:W.heap.size<=w.heap.size
 block:∀k,k<W.heap.size->k≠b->w.heap[k]? =W.heap[k]?
theorem dR.trans {b:Nat}{A B C:ah}(h:dR b A B)(k:dR b B C):dR b A C:=
 ⟨k.os.trans h.os,k.tape.trans h.tape,k.output.trans h.output,bu h.size k.size,λi a c=>(k.block i (dP a h.size) c).trans (h.block i a c)⟩
theorem dR.of_below {b:Nat}{A B:ah}(h:aD A B):dR b A B:=⟨h.os,h.tape,h.output,h.size,λi a _=>h.block i a⟩
theorem dR.below {b n:Nat}{A B:ah}(h:dR b A B)(a:n<=b)(c:n<=A.heap.size):Below n A B:=⟨h.os,h.tape,h.output,h.size,λi d=>h.block i aa aa⟩
theorem dR.setCell {b:Nat}{A B:ah}(h:dR b A B)(v:au):dR b A (B.setCell ⟨b,0,none⟩ v):=by
 have a:=(aQ b B).setCell (p:=⟨b,0,none⟩) ay v;refine⟨a.os.trans h.os,a.tape.trans h.tape,a.output.trans h.output,bu h.size a.size,λi d c=>?_⟩;exact(bY _ _ _ i c).trans (h.block i d c)
theorem dR.cell {b:Nat}{A B:ah}(h:dR b A B){p:Addr}{v:au}(hp:A.cell? p=some v)(a:p.block≠b):B.cell? p=some v:=by
 rw[<- hp];unfold World.cell?;rw[h.block p.block (aK hp) a]
theorem VW {B:Nat}{w w':ah}{p:Addr}(a:Below B w w')(hp:p.block<B):w'.frozen? p=w.frozen? p:=by
 unfold World.frozen?;rw[a.block _ hp]
theorem aiO {w:ah}{b:Nat}{u v:au}(h:w.cell? (aH b 0)=some u):(w.setCell ⟨b,0,none⟩ v).cell? (aH b 0)=some v:=by
 exact World.cell?_setCell_same w _ v h
theorem Yk {w:ah}{b:Nat}{v:au}(h:w.frozen? ⟨b,0,none⟩=false):(w.setCell ⟨b,0,none⟩ v).frozen? ⟨b,0,none⟩=false:=by
 have:=jK w ⟨b,0,none⟩ ⟨b,0,none⟩ v;grind
theorem Nd.ind {P:Nd->Prop}(h:∀nm ats D,(∀k∈D,P k)->P (.mk nm ats D)):∀n,P n:=by
 suffices H:(∀n,P n) by exact H
 intro n;exact Nd.rec (motive_1:=P) (motive_2:=λl=>∀k∈l,P k) (λnm ats D a=>h nm ats D a) aG (λk l b c=>by grind) n
mutual
def iT:Nd->Nat->Nat->Nat×Nat
 | .mk b ats D,a,ahead=>if ck1 b ats a ahead=0 then uj D (a+1) (ahead+1) else(ck1 b ats a ahead,ahead)
def uj:List Nd->Nat->Nat->Nat×Nat
 |[],_,ahead=>(0,ahead)
 |k::l,a,ahead=>if(iT k a ahead).1=0 then uj l a (iT k a ahead).2 else iT k a ahead
end
theorem FT {nm:Bs}{a ahead:Nat}(h:ck1 nm ats a ahead=0):a<=10/\ahead<100:=by
 unfold ck1 at h;grind
mutual
theorem FU:∀(n:Nd) (a ahead:Nat),(iT n a ahead).1=0->(iT n a ahead).2<=100
 | .mk c ats D,a,ahead,h=>by
  unfold iT at h⊢;split at h
  .rename_i b;rw[if_pos b];exact a1w D _ _ (FT b).2 h
  .rename_i b;omega
theorem a1w:∀(l:List Nd) (a ahead:Nat),ahead<=100->(uj l a ahead).1=0->(uj l a ahead).2<=100
 |[],a,ahead,c,_=>by unfold uj;exact c
 |k::l,a,ahead,c,h=>by
  unfold uj at h⊢;split at h
  .rename_i b;rw[if_pos b];exact a1w l _ _ (FU k _ _ b) h
  .rename_i b;omega
end
theorem FV {nm:Bs}{a ahead:Nat}(h:ck1 nm ats a ahead=0):iT (.mk nm ats D) a ahead=uj D (a+1) (ahead+1):=by rw[iT,if_pos h]
theorem rY {k:Nd}{l:List Nd}{a ahead:Nat}(h:(iT k a ahead).1=0):uj (k::l) a ahead=uj l a (iT k a ahead).2:=by rw[uj,if_pos h]
theorem zW {k:Nd}{l:List Nd}{a ahead:Nat}(h:(iT k a ahead).1≠0):uj (k::l) a ahead=iT k a ahead:=by rw[uj,if_neg h]
def Flt (E:Nat->Addr)(B:Nat)(r:Nat×Nat)(e:Ending)(w:ah):Prop:=∃a,B<=a/\e=ax (aP 67 (aI a))/\w.cell? (aH a 0)=some (ag r.2)/\w.cell? (aH a 1)=some (aP 453 (.pointer (some (E r.1))))
def Chk (E:Nat->Addr)(f:ah)(b d:Nat)(n:Nd):Prop:=∀(g h i:au) (a ahead:Nat) (W:ah),rJ f g h i n->a<=11->ahead<=100->aD f W->
 W.cell? (aH b 0)=some (ag ahead)->W.frozen? ⟨b,0,none⟩=false->W.cell? (aH d 0)=some (.func (.func 117) #[] #[aI b,aI d])->
 aJ 117 #[.agg #[g,h,i],ag a,aI b,aI d] W λe c=>dR b W c/\
  (((iT n a ahead).1=0/\e=ax aU/\c.cell? (aH b 0)=some (ag (iT n a ahead).2)/\c.frozen? ⟨b,0,none⟩=false)\/((iT n a ahead).1≠0/\Flt E W.heap.size (iT n a ahead) e c))
theorem a5X (E:Nat->Addr)(M:ah)(l PW:Nat)(hE:CE E M)(hA:M.heap.size<=l)(hne:PW≠l):∀n,Chk E M l PW n:=by
 refine Nd.ind λm ats D ih=>?_;intro c0 c1 c2 c ahead W hn hd ha N cA fA cP;have O:=hn;unfold rJ at O;obtain⟨rfl,hl,⟨o1,gY,rfl,_,_,_,_⟩,P,Q,rfl,c8,b2,c9,F⟩:=O;have HO:=M8 E m ats D (aj o1 ats.length gY) (aj P D.length Q) c ahead;have x:=dI W (ai #[ak ⟨m.toArray⟩,aj o1 ats.length gY,aj P D.length Q] 50);have n0:=jZ W #[ak ⟨m.toArray⟩,aj o1 ats.length gY,aj P D.length Q] 50 0 (ak ⟨m.toArray⟩) rfl;have n2:=jZ W #[ak ⟨m.toArray⟩,aj o1 ats.length gY,aj P D.length Q] 50 2 (aj P D.length Q) rfl;have o:=(x.cell (aK cA)).trans cA;have bW:=N.trans (x.mono N.size);have q:=HO _ ((hE.below bW)) (rJ.below bW (.mk m ats D) hn) aa aa;clear HO;unfold jq at*;have R:=aK cA;have b3:=aK cP;simp only at R b3;by_cases j:ck1 m ats c ahead=0
 .rw[j,wW] at q;have S:iT (.mk m ats D) c ahead=uj D (c+1) (ahead+1):=FV j;rw[S];obtain⟨d3,d4⟩:=FT j;clear S j;have T:=(VW x (p:=⟨l,0,none⟩) R).trans fA;have H:=(x.cell (aK cP)).trans cP;have d6:(D.length:Int)<=9223372036854775807:=by rw[dh] at b2;omega
  have b4:=aA F;have IH:=aA ih;clear F ih;go_enter func117,ntmps117;go_wp2_with(go_at_call 118;refine q.mono ?_;rintro e z ⟨rfl,g⟩;have I:=(g.cell (aK o)).trans o;have U:=(VW g (p:=⟨l,0,none⟩) (aK o)).trans T;have X:=(g.cell (aK H)).trans H;have m2:=(g.cell (aK n2)).trans n2);have Y:dR l W (z.setCell ⟨l,0,none⟩ (ag ((ahead:Int)+1))):=((dR.of_below x).trans (dR.of_below g)).setCell _;have Z:=aiO (v:=ag ((ahead:Int)+1)) I;have a4:=Yk (v:=ag ((ahead:Int)+1)) U;have a5:=dR.cell ((dR.of_below (aQ _ z)).setCell (b:=l) (ag ((ahead:Int)+1))) X hne;clear q o I T U H X m2 n2 n0 g x bW;obtain⟨V,hV⟩:∃V,z.setCell ⟨l,0,none⟩ (ag ((ahead:Int)+1))=V:=⟨_,rfl⟩;rw[hV] at Y Z a4 a5⊢;clear hV;have bV:aD M V:=N.trans (Y.below hA N.size);have sV:=Y.size
  go_loopw [27] (λy wr=>∃k a:Nat,k<=D.length/\y=ag k/\uj D (c+1) (ahead+1)=uj (D.drop k) (c+1) a/\a<=100/\dR l V wr/\wr.cell? (aH l 0)=some (ag a)/\wr.frozen? ⟨l,0,none⟩=false) (λy _=>D.length-(intOf y).toNat)
  case atStart=>exact⟨0,ahead+1,bf _,rfl,rfl,aa,dR.of_below (aQ _ _),by rw[Z];simp,a4⟩
  case round=>
   obtain⟨k,a,hk,rfl,hf,b5,K,J,a6⟩:=hrel;have HF:=aA hf;clear hf;have b6:=K.cell a5 hne;have bR:aD M wr:=bV.trans (K.below hA (bu N.size sV));by_cases b7:k<D.length
   .have c6:(k:Int)<(D.length:Int):=aa;obtain⟨kid,hx,a7⟩:=drop_at b7;obtain⟨b',c7,d0,d1,d2,rfl,e0,e1,e2,rZ⟩:=b4.out.get hx;rw[fZ] at e0 e1 e2;have A:kid∈D:=gN hx;have HI:=IH.out kid A;have Da:=rZ;obtain⟨s,t,f⟩:=kid;unfold rJ at Da;obtain⟨rfl, -,⟨u,d,rfl, -⟩,i,w,rfl, -⟩:=Da;have k0:=(bR.cell (aK e0)).trans e0;have k1:=(bR.cell (aK e1)).trans e1;have k2:=(bR.cell (aK e2)).trans e2;unfold jq at k0 k1 k2 rZ;clear e0 e1 e2 A;have bU:=dI wr (ai #[ak ⟨s.toArray⟩,aj u t.length d,aj i f.length w] 50);have u0:=jZ wr #[ak ⟨s.toArray⟩,aj u t.length d,aj i f.length w] 50 0 (ak ⟨s.toArray⟩) rfl;have u1:=jZ wr #[ak ⟨s.toArray⟩,aj u t.length d,aj i f.length w] 50 1 (aj u t.length d) rfl;have u2:=jZ wr #[ak ⟨s.toArray⟩,aj u t.length d,aj i f.length w] 50 2 (aj i f.length w) rfl;have a8:=dQ (ai #[ak ⟨s.toArray⟩,aj u t.length d,aj i f.length w] 50) J;have b8:=dQ (ai #[ak ⟨s.toArray⟩,aj u t.length d,aj i f.length w] 50) b6;have a9:=(VW bU (p:=⟨l,0,none⟩) (aK J)).trans a6;have L:=HI _ _ _ (c+1) a _ rZ aa b5 (bR.trans (bU.mono bR.size)) a8 a9 b8;rw[show((c+1:Nat):Int)=(c:Int)+1 from by omega] at L;clear HI rZ a8 a9;have HD:=aA a7;clear a7 hx;generalize Nd.mk s t f=kid at L HD;by_cases j:(iT kid (c+1) a).1=0
    .have b9:=L.mono (R':=λe B=>e=ax aU/\dR l (wr.alloc (ai #[ak ⟨s.toArray⟩,aj u t.length d,aj i f.length w] 50)) B/\B.cell? (aH l 0)=some (ag (iT kid (c+1) a).2)/\B.frozen? ⟨l,0,none⟩=false) (λe B h=>by
      rcases h.2 with C|C
      .exact⟨C.2.1,h.1,C.2.2⟩
      .exact(C.1 j).elim)
     have HS:Hid (uj D (c+1) (ahead+1)=uj (D.drop (k+1)) (c+1) (iT kid (c+1) a).2/\(iT kid (c+1) a).2<=100):=⟨by rw[HF.out,HD.out];exact rY j,FU _ _ _ j⟩;clear L j;go_wp2_with(go_at_call 117;refine b9.mono ?_;rintro e w2 ⟨rfl,K2,c3,c4⟩)
     go_roundw
     case rel=>exact⟨k+1,_,aa,by go_num,HS.out.1,HS.out.2,(K.trans (dR.of_below bU)).trans K2,c3,c4⟩
     case measure=>simp[intOf];omega
    .have b1:=L.mono (R':=λe B=>dR l (wr.alloc (ai #[ak ⟨s.toArray⟩,aj u t.length d,aj i f.length w] 50)) B/\Flt E (wr.alloc (ai #[ak ⟨s.toArray⟩,aj u t.length d,aj i f.length w] 50)).heap.size (iT kid (c+1) a) e B) (λe B h=>by
      rcases h.2 with C|C
      .exact(j C.1).elim
      .exact⟨h.1,C.2⟩)
     have HS:Hid (uj D (c+1) (ahead+1)=iT kid (c+1) a):=(by rw[HF.out,HD.out];exact zW j:uj D (c+1) (ahead+1)=iT kid (c+1) a);have HP:=aA j;have sR:=K.size;clear L j;generalize iT kid (c+1) a=r at b1 HS HP;go_wp2_with(go_at_call 117;refine b1.mono ?_;rintro e w2 ⟨K2,pb,c5,rfl,z0,z1⟩);go_ret;refine⟨((Y.trans K).trans (dR.of_below bU)).trans K2,.inr ?_⟩;rw[HS.out];exact⟨HP.out,pb,by simp at c5;omega,rfl,z0,z1⟩
   .obtain rfl:k=D.length:=aa;have j:Hid (uj D (c+1) (ahead+1)=(0,a)):=(by rw[HF.out,List.drop_length];unfold uj;rfl:uj D (c+1) (ahead+1)=(0,a));go_wp2_with fail;go_ret;exact⟨Y.trans K,.inl (by rw[j.out];exact⟨rfl,rfl,J,a6⟩)⟩
 .rw[lu E j] at q;have S:iT (.mk m ats D) c ahead=(ck1 m ats c ahead,ahead):=by unfold iT;rw[if_neg j]
  rw[S];clear S F ih n2;go_enter func117,ntmps117;go_wp2_with(go_at_call 118;refine q.mono ?_;rintro e z ⟨rfl,g⟩;have I:=(g.cell (aK o)).trans o);go_ret;have z0:=jZ z #[ag ahead,aP 453 (.pointer (some (E (ck1 m ats c ahead))))] 71 0 (ag ahead) rfl;have z1:=jZ z #[ag ahead,aP 453 (.pointer (some (E (ck1 m ats c ahead))))] 71 1 (aP 453 (.pointer (some (E (ck1 m ats c ahead))))) rfl;exact⟨((dR.of_below x).trans (dR.of_below g)).trans (dR.of_below (dI z _)),.inr ⟨j,z.heap.size,(aW x g).size,rfl,z0,z1⟩⟩
end
section
open Go.RowKit
set_option maxRecDepth 20000
theorem uP (P:Program)(w:ah)(a:Addr)(m:Mode)(f:Fn)(x y:Array au):(store a (.func f x y) m).run P w=stored P w a (.func f x y) m:=run_store P w a _ m rfl
attribute [local go_sem] uP
theorem Yl (W:ah)(cs:Array au)(t:TypeId)(i:Nat):(W.alloc (ai cs t)).frozen? ⟨W.heap.size,i,none⟩=false:=by
 have e:(W.alloc (ai cs t)).heap[W.heap.size]? =some (ai cs t):=by show(W.heap.push (ai cs t))[W.heap.size]? =_;simp
 unfold World.frozen?;grind
theorem FW (E:Nat->Addr)(n:Nd)(J K L:au)(W:ah)(hE:CE E W)(w:rJ W J K L n):
  aJ 68 #[.agg #[J,K,L]] W λe w'=>aD W w'/\(((iT n 1 0).1=0/\e=ax aU)\/((iT n 1 0).1≠0/\Flt E W.heap.size (iT n 1 0) e w')):=by
 have x:=a5X E W (W.heap.size+1) (W.heap.size+1+1) hE aa aa n;unfold Chk at x;have l:=w;obtain⟨a,ats,D⟩:=n;unfold rJ at l;obtain⟨rfl, -,⟨b,c,rfl, -⟩,d,f,rfl, -⟩:=l;have i:=λV m=>x (jq a) (aj b ats.length c) (aj d D.length f) 1 0 V w aC aC m;clear x;generalize Nd.mk a ats D=n at i w⊢;unfold jq at*;have M:=dI W (ai #[ak ⟨a.toArray⟩,aj b ats.length c,aj d D.length f] 50);have o:=jZ W #[ak ⟨a.toArray⟩,aj b ats.length c,aj d D.length f] 50 0 (ak ⟨a.toArray⟩) rfl;have q:=jZ W #[ak ⟨a.toArray⟩,aj b ats.length c,aj d D.length f] 50 1 (aj b ats.length c) rfl;have r:=jZ W #[ak ⟨a.toArray⟩,aj b ats.length c,aj d D.length f] 50 2 (aj d D.length f) rfl;have s:=jZ (W.alloc (ai #[ak ⟨a.toArray⟩,aj b ats.length c,aj d D.length f] 50)) #[ag 0] 3 0 (ag 0) rfl;have y:=Yl (W.alloc (ai #[ak ⟨a.toArray⟩,aj b ats.length c,aj d D.length f] 50)) #[ag 0] 3 0;have g:=dI (W.alloc (ai #[ak ⟨a.toArray⟩,aj b ats.length c,aj d D.length f] 50)) (ai #[ag 0] 3);have z:=jZ ((W.alloc (ai #[ak ⟨a.toArray⟩,aj b ats.length c,aj d D.length f] 50)).alloc (ai #[ag 0] 3)) #[.func (.func 117) #[] #[.pointer (some ⟨W.heap.size+1,0,none⟩),.pointer (some ⟨W.heap.size+1+1,0,none⟩)]] 222 0 (.func (.func 117) #[] #[.pointer (some ⟨W.heap.size+1,0,none⟩),.pointer (some ⟨W.heap.size+1+1,0,none⟩)]) rfl;have j:=dI ((W.alloc (ai #[ak ⟨a.toArray⟩,aj b ats.length c,aj d D.length f] 50)).alloc (ai #[ag 0] 3)) (ai #[.func (.func 117) #[] #[.pointer (some ⟨W.heap.size+1,0,none⟩),.pointer (some ⟨W.heap.size+1+1,0,none⟩)]] 222);simp only[dK] at s y z;have N:=(j.cell (aK s)).trans s;have t:=(VW j (p:=⟨W.heap.size+1,0,none⟩) (aK s)).trans y;have P:=(j.cell (aK ((g.cell (aK o)).trans o))).trans ((g.cell (aK o)).trans o)
 have Q:=(j.cell (aK ((g.cell (aK q)).trans q))).trans ((g.cell (aK q)).trans q);have R:=(j.cell (aK ((g.cell (aK r)).trans r))).trans ((g.cell (aK r)).trans r);have u:=aW (aW M g) j;have A:=i _ u N t z;have B:=u.size;clear s y o q r M g j i;go_enter func68,ntmps68;go_upto_region 4 with fail;obtain⟨V,O⟩:∃V,((W.alloc (ai #[ak ⟨a.toArray⟩,aj b ats.length c,aj d D.length f] 50)).alloc (ai #[ag 0] 3)).alloc (ai #[.func (.func 117) #[] #[.pointer (some ⟨W.heap.size+1,0,none⟩),.pointer (some ⟨W.heap.size+1+1,0,none⟩)]] 222)=V:=⟨_,rfl⟩;rw[O] at N t P Q R u A z B⊢;clear O;have C:=A.mono (R':=λe w'=>∃v,e=ax v/\dR (W.heap.size+1) V w'/\(((iT n 1 0).1=0/\v=aU)\/((iT n 1 0).1≠0/\Flt E V.heap.size (iT n 1 0) (ax v) w'))) (λe w' h=>by
  rcases h.2 with k|k
  .exact⟨_,k.2.1,h.1,.inl ⟨k.1,rfl⟩⟩
  .obtain⟨F,H,I,rfl,S⟩:=k;exact⟨_,rfl,h.1,.inr ⟨F,H,I,rfl,S⟩⟩)
 clear A;go_wp2_with(go_at_call 117;refine C.mono ?_;rintro e X ⟨v,rfl,T,U⟩);go_ret;refine⟨u.trans (T.below aa B),?_⟩;rcases U with⟨m,rfl⟩|⟨m,H,k,F,I⟩
 .exact .inl ⟨m,rfl⟩
 .exact .inr ⟨m,H,bu B k,F,I⟩
end
section
open Go.RowKit
set_option maxRecDepth 100000
theorem a9a:(prog.info? 187).map (·.size)=some 2:=az
theorem aeN:liesAt prog prog.depth 187 (2/prog.cellsOf 187) 0 187 1=true:=az
theorem Ym (b:Nat)(w:ah)(c:w.cell? (aH b 0)=some (aI b)):
  aJ 156 #[aI b] w λe w'=>e=ax (aF #[])/\w'=w:=by
 obtain⟨j,a, -⟩:=mM.1 a9a;go_enter func156,ntmps156;go_wp2;rw[Lib.run_neq_ptr_same w _ underlying184 a];go_wp2
 go_end0
 exact⟨rfl,rfl⟩
theorem Tz (b:Nat)(w:ah)(d:w.cell? (aH b 0)=some (.pointer none))(hs:w.shape? b=some (187,2))(f:w.frozen? ⟨b,0,none⟩=false):
  aJ 156 #[aI b] w λe w'=>e=ax (aF #[])/\w'=w.setCell ⟨b,0,none⟩ (aI b):=by
 obtain⟨j,c,a⟩:=mM.1 a9a;go_enter func156,ntmps156;go_wp2;rw[Lib.run_to_unsafe w ⟨b,0,none⟩ underlying184 underlying124 c (by rw[a];decide) hs (Nat.zero_lt_succ 1)];simp only[Result.andThen];rw[Oper.upon_value];go_wp2;rw[run_callFunc_extern func223 az az az (e:=Extern.AbiNoEscape.same) az,Lib.run_noEscape];simp only[Result.andThen];rw[Oper.upon_value];go_wp2;rw[Lib.run_from_unsafe w ⟨b,0,none⟩ underlying124 underlying184 c hs aeN];simp only[Result.andThen];rw[Oper.upon_value];go_wp2
 go_end0
 exact⟨rfl,rfl⟩
abbrev Bd (B b:Nat)(l:Bs)(w:ah):Prop:=Lib.IsBuilderF 187 5 B b (Lib.byteCells l) w
structure DY (B b:Nat)(w w':ah):Prop where
 low:Below B w w'
 oth:Lib.OthersKept 5 (some b) w w'
theorem DY.trans {B b:Nat}{w w' a:ah}(h:DY B b w w')(k:DY B b w' a):DY B b w a:=⟨h.low.trans k.low,h.oth.trans k.oth⟩
theorem DY.refl (B b:Nat)(w:ah):DY B b w w:=⟨aQ _ _,Lib.OthersKept.refl _ _ _⟩
theorem Pk (B b:Nat)(l:Bs)(w:ah)(h:Bd B b l w):aJ 156 #[aI b] w λe w'=>e=ax (aF #[])/\Lib.BuilderAtF 187 5 B b (aI b) (Lib.byteCells l) w'/\DY B b w w':=by
 rcases h with h|h
 .refine(Tz b w h.cell0 h.shape h.frozen0).mono ?_;rintro e w' ⟨rfl,rfl⟩;exact⟨rfl,h.used _,(aQ B w).setCell (p:=⟨b,0,none⟩) h.1 _,(Lib.OthersKept.refl _ _ w).setCell ⟨b,0,none⟩ rfl _⟩
 .refine(Ym b w h.cell0).mono ?_;rintro e w' ⟨rfl,rfl⟩;exact⟨rfl,h,DY.refl _ _ _⟩
theorem Pn:(prog.info? 5).map (λi=>(i.zero,i.size,i.bytes))=some (some (.int .u8 0),1,1):=az
theorem Po {w:ah}{B:Nat}{e:TypeId}{v:au}{n:Nat}{b:List au}(h:w.ownsRowF B e 1 v n b):∃c d a,v=aj c d a:=by
 rcases h.2 with⟨f,_⟩|⟨g,a,i,j,f,_⟩
 .grind
 .grind
theorem aY {w:ah}{b:Nat}{o:Obj}(h:w.heap[b]? =some o):b<w.heap.size:=(dZ.1 h).1
theorem fP (B b:Nat)(l s:Bs)(w:ah)(h:Bd B b l w)(K:l.length+s.length<=1000000000)(L:B<=w.heap.size):
  aJ 154 #[aI b,ak ⟨s.toArray⟩] w λe w'=>e=ax (aF #[ag s.length,aU])/\Bd B b (l++s) w'/\DY B b w w':=by
 obtain⟨D,E,r,t,u⟩:=info_parts Pn;have j:=ic s;have m:(Lib.byteCells l).length=l.length:=by simp[Lib.byteCells]
 have F:=Pk B b l w h;go_enter func154,ntmps154;go_wp2_with(first|(at_builtin;refine Lib.wpList_append_own_stringF _ rfl _ _ 185 9 rfl B 5 D underlying185 underlying9 E r t u _ _ _ rfl c ⟨s.toArray⟩ rfl (by rw[m,j,dh];omega) (by rw[m,j];omega) aa ?_;intro H q d a _;have f:q.heap[b]? =some (ai #[aI b,v] 187 (0,0)):=(by rw[a.block b (aY g) (λe=>x e.symm)];exact g);have M:q.cell? (aH b 1)=some v:=(by rw[Lib.cell_of_heap f];rfl);have N:q.frozen? ⟨b,1,none⟩=false:=Lib.frozen_of_heap f 1;obtain⟨y,z,i,rfl⟩:∃y z i,H=aj y z i:=Po d)|(go_at_call 156;refine F.mono ?_;rintro e A ⟨rfl,⟨n,v,g,c,x⟩,o⟩;have O:A.cell? (aH b 1)=some v:=(by rw[Lib.cell_of_heap g];rfl);have P:=o.low.size))
 go_ret2
 have C:q.ownsRowF B 5 1 (aj y z i) (Lib.byteCells (l++s)).length (Lib.byteCells (l++s)):=by
  have I:Lib.byteCells (l++s)=Lib.byteCells l++Lib.strCells ⟨s.toArray⟩:=by rw[Lib.byteCells_append];rfl
  rw[I,dJ,Lib.strCells_length];exact d
 refine⟨rfl,.inr (Lib.BuilderAtF.put (T:=187) (e:=5) n f C aC),o.trans ⟨?_,?_⟩⟩
 .exact((aQ B A).grown a aa (λk J=>(c.lt k J).1)).setCell (p:=⟨b,1,none⟩) n _
 .exact((Lib.OthersKept.refl _ _ A).grown a (Lib.ownsRowF_kind c)).setCell ⟨b,1,none⟩ rfl _
theorem one_cell (w:ah)(x:au)(t:TypeId):∀j u,[x][j]? =some u->(w.alloc (ai #[x] t)).cell? ((⟨w.heap.size,0,none⟩:Addr).add j)=some u:=by
 intro j u h
 match j,h with
 |0,h=>simp at h;subst h;exact jZ w #[x] t 0 x rfl
theorem yc (B b:Nat)(l:Bs)(c:UInt8)(w:ah)(h:Bd B b l w)(L:l.length+1<=1000000000)(M:B<=w.heap.size):
  aJ 92 #[aI b,.int .u8 c.toNat] w λe w'=>e=ax aU/\Bd B b (l++[c]) w'/\DY B b w w':=by
 obtain⟨E,F,s,t,x⟩:=info_parts Pn;have n:(Lib.byteCells l).length=l.length:=by simp[Lib.byteCells]
 have H:=Pk B b l w h;go_enter func92,ntmps92;go_wp2_with(first|(at_builtin;refine wpList_append_ownF _ rfl _ _ 185 rfl B 5 E (.int .u8 0) 1 1 underlying185 F s t x rfl aC _ _ _ rfl (d.alloc _) ⟨m.heap.size,0,none⟩ 1 1 [.int .u8 c.toNat] rfl rfl (one_cell m _ _) (λu D=>by simp at D;subst D;rfl) (by rw[n,dh];omega) (by rw[n];omega) aX ?_;intro I r f a _;have i:r.heap[b]? =some (ai #[aI b,v] 187 (0,0)):=(by rw[a.block b (by have:=aY g;simp;omega) (λe=>y e.symm),Lib.alloc_old m _ b (aY g)];exact g);have N:r.cell? (aH b 1)=some v:=(by rw[Lib.cell_of_heap i];rfl);have O:r.frozen? ⟨b,1,none⟩=false:=Lib.frozen_of_heap i 1;obtain⟨z,A,j,rfl⟩:∃z A j,I=aj z A j:=Po f)|(go_at_call 156;refine H.mono ?_;rintro e m ⟨rfl,⟨o,v,g,d,y⟩,q⟩;have P:m.cell? (aH b 1)=some v:=(by rw[Lib.cell_of_heap g];rfl);have Q:=q.low.size));go_ret;have C:r.ownsRowF B 5 1 (aj z A j) (Lib.byteCells (l++[c])).length (Lib.byteCells (l++[c])):=by
  have J:Lib.byteCells (l++[c])=Lib.byteCells l++[.int .u8 c.toNat]:=by rw[Lib.byteCells_append];rfl
  rw[J,dJ];exact f
 refine⟨rfl,.inr (Lib.BuilderAtF.put (T:=187) (e:=5) o i C aC),q.trans ⟨?_,?_⟩⟩
 .exact(((aQ B m).alloc aa _).grown a aX (λk K=>(d.lt k K).1)).setCell (p:=⟨b,1,none⟩) o _
 .exact(((Lib.OthersKept.refl _ _ m).alloc _).grown a (Lib.ownsRowF_kind (d.alloc _))).setCell ⟨b,1,none⟩ rfl _
end
section
open Go.RowKit
set_option maxRecDepth 20000
def wl (c:UInt8):Bs:=if c=60 then[38,108,116,59] else if c=62 then[38,103,116,59] else if c=38 then[38,97,109,112,59] else if c=34 then[38,113,117,111,116,59] else[]
theorem FX (c:UInt8):Ke c=⟨(wl c).toArray⟩:=by
 unfold Ke wl;grind
theorem VX (c:UInt8):XF c=if wl c=[] then[c] else wl c:=by
 unfold XF wl;grind
theorem aaA (c:UInt8):(wl c).length<=6:=by
 unfold wl
 repeat' split
 all_goals decide
theorem a1x (c:UInt8):(XF c).length<=6:=by
 unfold XF
 repeat' split
 all_goals(simp)
theorem Db:∀(a b:Bs),nZ (a++b)=nZ a++nZ b
 |[],b=>rfl
 |c::a,b=>by simp[nZ,Db a b]
theorem FY:∀v:Bs,(nZ v).length<=6*v.length
 |[]=>by simp[nZ]
 |c::v=>by have:=a1x c;have:=FY v;simp[nZ];omega
theorem Yo (s:aM)(k:Nat)(h:k<s.size):s.data.toList.take (k+1)=s.data.toList.take k++[s[k]]:=by
 rw[dS,eZ (by rw[FP];exact h),Ph s k h];rfl
theorem Pp (s:aM)(k:Nat)(h:k<s.size):nZ (s.data.toList.take (k+1))=nZ (s.data.toList.take k)++XF s[k]:=by
 rw[Yo s k h,Db];simp[nZ]
theorem a1y (s:aM)(k:Nat)(h:k<=s.size):(nZ (s.data.toList.take k)).length<=6*s.size:=by
 have:=FY (s.data.toList.take k);grind
theorem FZ (B b:Nat)(l:Bs)(s:aM)(W:ah)(h:Bd B b l W)(F:l.length<=100000000)(hs:s.size<=1000)(w:B<=W.heap.size):
  aJ 157 #[aI b,ak s] W λe w'=>e=ax (aF #[])/\Bd B b (l++nZ s.data.toList) w'/\DY B b W w':=by
 have x:(s.size:Int)<=1000:=aa;have p:=aA h;clear h;go_enter func157,ntmps157;go_wp2_with fail
 go_loopw [4] (λy wr=>∃k:Nat,k<=s.size/\y=ag k/\Bd B b (l++nZ (s.data.toList.take k)) wr/\DY B b W wr) (λy _=>s.size-(intOf y).toNat)
 case atStart=>exact⟨0,bf _,rfl,by simpa[nZ] using p.out,DY.refl _ _ _⟩
 case round=>
  obtain⟨k,z,rfl,i,a⟩:=hrel;have c:=aA i;clear i;have j:B<=wr.heap.size:=bu w a.low.size;by_cases m:k<s.size
  .have u:(k:Int)<(s.size:Int):=aa;have H:=Eu s[k];have o:=qC s[k];have v:(l++nZ (s.data.toList.take k)).length<=100006000:=by have:=a1y s k z;rw[dJ];omega
   by_cases g:wl s[k]=[]
   .have n:Ke s[k]=⟨#[]⟩:=by rw[FX,g]
    rw[n] at o;have q:=yc B b _ s[k] wr c.out aa j;have d:Hid (nZ (s.data.toList.take (k+1))=nZ (s.data.toList.take k)++[s[k]]):=(by rw[Pp s k m,VX,if_pos g]:nZ (s.data.toList.take (k+1))=nZ (s.data.toList.take k)++[s[k]]);clear n g;go_wp2_with(first|(go_at_call 224;refine(o _).mono ?_;rintro e A ⟨rfl,rfl⟩)|(go_at_call 92;refine q.mono ?_;rintro e C ⟨rfl,r,f⟩))
    go_roundw
    case rel=>exact⟨k+1,aa,by go_num,by rw[d.out,<- kV];exact r,a.trans f⟩
    case measure=>simp[intOf];omega
   .have n:Ke s[k]=⟨(wl s[k]).toArray⟩:=FX _;rw[n] at o;have D:=aaA s[k];have t:=fP B b _ (wl s[k]) wr c.out aa j;have d:Hid (nZ (s.data.toList.take (k+1))=nZ (s.data.toList.take k)++wl s[k]):=(by rw[Pp s k m,VX,if_neg g]:nZ (s.data.toList.take (k+1))=nZ (s.data.toList.take k)++wl s[k]);have I:(wl s[k]).isEmpty=false:=by rw[List.isEmpty_eq_false_iff];exact g
    have J:(wl s[k]==[])=false:=by rw[dL];exact g
    clear n;generalize wl s[k]=K at*;go_wp2_with(first|(go_at_call 224;refine(o _).mono ?_;rintro e A ⟨rfl,rfl⟩)|(go_at_call 154;refine t.mono ?_;rintro e C ⟨rfl,r,f⟩))
    go_roundw
    case rel=>exact⟨k+1,aa,by go_num,by rw[d.out,<- kV];exact r,a.trans f⟩
    case measure=>simp[intOf];omega
  .obtain rfl:k=s.size:=aa;have E:Hid (s.data.toList.take s.size=s.data.toList):=(by rw[<- FP,gq]:s.data.toList.take s.size=s.data.toList);go_wp2_with fail
   go_end0
   exact⟨rfl,by have:=c.out;rwa[E.out] at this,a⟩
mutual
def okN:Nd->Prop
 | .mk b ats D=>iF b=true/\(∀a∈ats,iF a.1=true/\isVal a.2=true)/\okL D
def okL:List Nd->Prop
 |[]=>True
 |k::l=>okN k/\okL l
end
theorem VY:∀{l:List Nd} {k:Nd},okL l->k∈l->okN k
 |[],_,_,h=>by simp at h
 |a::l,k,h,b=>by
  unfold okL at h;rcases gD.1 b with rfl|b
  .exact h.1
  .exact VY h.2 b
theorem a1z:∀(ats pre:List (Bs×Bs)),DX pre ats=0->∀a∈ats,iF a.1=true/\isVal a.2=true
 |[],_,_,a,b=>by simp at b
 |x::r,pre,h,a,b=>by
  unfold DX at h;split at h
  .rename_i c;rcases gD.1 b with rfl|b
   .unfold Ty at c;grind
   .exact a1z r _ h a b
  .rename_i c;exact(c h).elim
theorem G8 {nm:Bs}{b ahead:Nat}(h:ck1 nm ats b ahead=0):iF nm=true/\ats.length<=12/\∀a∈ats,iF a.1=true/\isVal a.2=true:=by
 unfold ck1 at h;split at h
 .cases h
 .split at h
  .cases h
  .split at h
   .rename_i c;split at h
    .cases h
    .exact⟨c,aa,a1z ats [] h⟩
   .cases h
mutual
theorem a1A:∀(n:Nd) (a ahead:Nat),(iT n a ahead).1=0->okN n
 | .mk c ats D,a,ahead,h=>by
  unfold iT at h;split at h
  .rename_i b;unfold okN;exact⟨(G8 b).1,(G8 b).2.2,a1B D _ _ h⟩
  .rename_i b;exact(b h).elim
theorem a1B:∀(l:List Nd) (a ahead:Nat),(uj l a ahead).1=0->okL l
 |[],_,_,_=>by unfold okL;trivial
 |k::l,a,ahead,h=>by
  unfold uj at h;split at h
  .rename_i b;unfold okL;exact⟨a1A k _ _ b,a1B l _ _ h⟩
  .rename_i b;exact(b h).elim
end
theorem Bd.al {B b:Nat}{l:Bs}{w:ah}(h:Bd B b l w)(o:Obj):Bd B b l (w.alloc o):=Lib.IsBuilderF.alloc h o
theorem Bd.lt {B b:Nat}{l:Bs}{w:ah}(h:Bd B b l w):B<=b/\b<w.heap.size:=by
 rcases h with⟨a,v,c,_⟩|⟨a,v,c,_⟩
 .grind
 .grind
theorem DY.al {B b:Nat}(w:ah)(o:Obj)(a:B<=w.heap.size):DY B b w (w.alloc o):=⟨(aQ B w).alloc a o,(Lib.OthersKept.refl _ _ w).alloc o⟩
theorem DY.box {B b:Nat}{w w':ah}(h:DY B b w w'){N:Nat}{cs:Array au}{t:TypeId}(a:w.heap[N]? =some (ai cs t))(hne:N≠b)(d:t≠5):w'.heap[N]? =some (ai cs t):=
 h.oth N _ a (λe=>hne (fF e)) (λc f e=>by cases e;exact d rfl)
theorem dN (w:ah)(cs:Array au)(t:TypeId):(w.alloc (ai cs t)).heap[w.heap.size]? =some (ai cs t):=by show(w.heap.push (ai cs t))[w.heap.size]? =_;simp
theorem aO {w:ah}{N:Nat}{cs:Array au}{t:TypeId}(h:w.heap[N]? =some (ai cs t))(i:Nat)(v:au)(a:cs[i]? =some v):w.cell? (aH N i)=some v:=by
 unfold World.cell?;grind
theorem M9 (a c:Bs):(⟨a.toArray⟩++⟨c.toArray⟩:aM)=⟨(a++c).toArray⟩:=by
 apply ByteArray.ext;simp[ByteArray.data_append]
theorem lC {s:Bs}(h:iF s=true):s.length<=12:=by
 cases s with
 |nil=>simp
 |cons c r=>simp only[iF,iW,kZ] at h;exact h.1.1
theorem pM {s:Bs}(h:isVal s=true):s.length<=200:=by
 simp only[isVal,iW,kZ] at h;exact h.1
theorem vU:∀a c:List (Bs×Bs),jP (a++c)=jP a++jP c
 |[],_=>rfl
 |x::a,c=>by simp[jP,vU a c]
theorem Kg {k:Nat}{x:Bs×Bs}(a:ats[k]? =some x):jP (ats.take (k+1))=jP (ats.take k)++atT x:=by
 rw[dS,a,vU];simp[jP]
theorem a5Y (ats:List (Bs×Bs))(k:Nat):(jP (ats.take k)).length<=(jP ats).length:=by
 have:=congrArg List.length (vU (ats.take k) (ats.drop k));rw[jJ,dJ] at this;omega
theorem vV:∀a c:List Nd,lV (a++c)=lV a++lV c
 |[],_=>by simp[lV]
 |x::a,c=>by simp[lV,vV a c]
theorem Kh {k:Nat}{x:Nd}(a:D[k]? =some x):lV (D.take (k+1))=lV (D.take k)++txt x:=by
 rw[dS,a,vV];simp[lV]
theorem a5Z (D:List Nd)(k:Nat):(lV (D.take k)).length<=(lV D).length:=by
 have:=congrArg List.length (vV (D.take k) (D.drop k));rw[jJ,dJ] at this;omega
theorem a6a (nm:Bs)(ats:List (Bs×Bs))(D:List Nd):1+nm.length+(jP ats).length+(lV D).length<=(txt (.mk nm ats D)).length:=by
 cases D with
 |nil=>rw[Lt];simp[lV];omega
 |cons k r=>rw[EU];simp;omega
def Wr (a:ah)(b:Nat)(n:Nd):Prop:=∀(c d f:au) (l:Bs) (W:ah),rJ a c d f n->okN n->aD a W->Bd a.heap.size b l W->l.length+(txt n).length<=100000000->
 aJ 95 #[aI b,.agg #[c,d,f]] W λe g=>e=ax (aF #[])/\Bd a.heap.size b (l++txt n) g/\DY a.heap.size b W g
theorem Je (c:ah)(b:Nat):∀n,Wr c b n:=by
 refine Nd.ind λa ats D ih=>?_;intro c0 c1 c2 l W hn h hb K e3;unfold rJ at hn;obtain⟨rfl,hl,⟨L,M,rfl,e5,b2,e6,N⟩,I,J,rfl,e7,b3,e8,O⟩:=hn;unfold okN at h;obtain⟨b4,Mc,d⟩:=h;have hB:=hb.size;have e9:=K.lt;have u:=dN W #[ak ⟨a.toArray⟩,aj L ats.length M,aj I D.length J] 50;have n0:=aO u 0 (ak ⟨a.toArray⟩) rfl;have k0:=DY.al (B:=c.heap.size) (b:=b) W (ai #[ak ⟨a.toArray⟩,aj L ats.length M,aj I D.length J] 50) hB;have P:=K.al (ai #[ak ⟨a.toArray⟩,aj L ats.length M,aj I D.length J] 50);have f0:=lC b4;have f1:1+a.length<=9223372036854775807:=aa;have f2:=a6a a ats D;have f3:(ats.length:Int)<=9223372036854775807:=by rw[dh] at b2;omega
 have f4:(D.length:Int)<=9223372036854775807:=by rw[dh] at b3;omega
 have p:W.heap.size≠b:=aa;have b5:=aA N;have b6:=aA O;have IH:=aA ih;have b7:=aA Mc;have b8:=aA d;clear N O ih Mc d;unfold jq;go_enter func95,ntmps95;go_wp2_with(go_at_call 154;rw[M9];refine(fP c.heap.size b l ([60]++a) _ P aX (bu hB k0.low.size)).mono ?_;rintro e w1 ⟨rfl,G6,w⟩;have Q:=w.box u p aC;have m1:=aO Q 1 (aj L ats.length M) rfl);obtain⟨V0,NF⟩:∃V,W.alloc (ai #[ak ⟨a.toArray⟩,aj L ats.length M,aj I D.length J] 50)=V:=⟨_,rfl⟩;rw[NF] at k0 w u;clear n0 P NF m1;have K1:=k0.trans w;have b9:=aA G6;clear G6
 go_loopw [16] (λy wr=>∃k:Nat,k<=ats.length/\y=ag k/\Bd c.heap.size b (l++([60]++a)++jP (ats.take k)) wr/\DY c.heap.size b w1 wr) (λy _=>ats.length-(intOf y).toNat)
 case atStart=>exact⟨0,bf _,rfl,by simpa[jP] using b9.out,DY.refl _ _ _⟩
 case round=>
  obtain⟨k,hk,rfl,R,d⟩:=hrel;have z:=aA R;clear R;have A:c.heap.size<=wr.heap.size:=bu (bu hB K1.low.size) d.low.size;have bR:aD c wr:=(hb.trans K1.low).trans d.low;have S:=d.box Q p aC;by_cases c3:k<ats.length
  .have e4:(k:Int)<(ats.length:Int):=aa;obtain⟨x,i, -⟩:=drop_at c3;obtain⟨b',T,rfl,c0,c1, -, -⟩:=b5.out k x i;obtain⟨U,X⟩:=b7.out x (gN i);have f5:=lC U;have f6:=pM X;have C:=a5Y ats (k+1);rw[Kg i,dJ] at C;have f7:(atT x).length=1+(x.1.length+(2+((nZ x.2).length+1))):=by simp[atT];omega
   have HM:Hid (jP (ats.take (k+1))=jP (ats.take k)++atT x):=Kg i;have j0:=(bR.cell (aK c0)).trans c0;have j1:=(bR.cell (aK c1)).trans c1;unfold jq at j0 j1;clear c0 c1 i U X;have E:=dN wr #[ak ⟨x.1.toArray⟩,ak ⟨x.2.toArray⟩] 145;have u0:=aO E 0 (ak ⟨x.1.toArray⟩) rfl;have Y:=DY.al (B:=c.heap.size) (b:=b) wr (ai #[ak ⟨x.1.toArray⟩,ak ⟨x.2.toArray⟩] 145) A;have r:=z.out.al (ai #[ak ⟨x.1.toArray⟩,ak ⟨x.2.toArray⟩] 145);have c4:wr.heap.size≠b:=by have:=z.out.lt;omega
   have f8:1+x.1.length<=9223372036854775807:=aa;have f9:1+x.1.length+2<=9223372036854775807:=aa;have g:(l++([60]++a)++jP (ats.take k)).length=l.length+(1+a.length)+(jP (ats.take k)).length:=aX;have z0:=Y.low.size;go_wp2_with(first|(go_at_call 154;rw[M9,M9];refine(fP c.heap.size b _ ([32]++x.1++[61,34]) _ r (by rw[g];simp;omega) aa).mono ?_;rintro e w2 ⟨rfl,F,j⟩;have y1:=j.box E c4 aC;have u1:=aO y1 1 (ak ⟨x.2.toArray⟩) rfl;have z1:=j.low.size)|(go_at_call 157;refine(FZ c.heap.size b _ ⟨x.2.toArray⟩ _ F (by rw[dJ,g];simp;omega) (by rw[ic];omega) aa).mono ?_;rintro e w3 ⟨rfl,c5,Z⟩;have z2:=Z.low.size)|(go_at_call 154;refine(fP c.heap.size b _ [34] _ c5 (by rw[dJ,dJ,g];simp;omega) aa).mono ?_;rintro e w4 ⟨rfl,c6,c7⟩))
   go_roundw
   case rel=>exact⟨k+1,aa,by go_num,by rw[HM.out];simpa[atT] using c6,(((d.trans Y).trans j).trans Z).trans c7⟩
   case measure=>simp[intOf];omega
  .obtain rfl:k=ats.length:=aa;have a4:Hid (Bd c.heap.size b (l++([60]++a)++jP ats) wr):=(by have:=z.out;rwa[gq] at this:Bd c.heap.size b (l++([60]++a)++jP ats) wr);have m2:=aO S 2 (aj I D.length J) rfl;have g:(l++([60]++a)++jP ats).length=l.length+(1+a.length)+(jP ats).length:=aX;by_cases hz:D.length=0
   .obtain rfl:D=[]:=lS.1 hz;have HT:Hid (txt (.mk a ats [])=([60]++a)++jP ats++[47,62]):=(by rw[Lt];simp:txt (.mk a ats [])=([60]++a)++jP ats++[47,62]);go_wp2_with(go_at_call 154;refine(fP c.heap.size b _ [47,62] _ a4.out (by rw[g];simp;omega) A).mono ?_;rintro e w2 ⟨rfl,F,j⟩);refine bodyPost_ret (v:=aF #[]) (by simp[results,results95,go_sem]) rfl ⟨rfl,?_,(K1.trans d).trans j⟩;rw[HT.out];simpa using F
   .obtain⟨kf,kr,a5⟩:∃kf kr,D=kf::kr:=by
     cases D with
     |nil=>simp at hz
     |cons kf kr=>exact⟨kf,kr,rfl⟩
    have HT:Hid (txt (.mk a ats D)=([60]++a)++jP ats++[62]++lV D++([60,47]++a++[62])):=(by rw[a5,EU];simp:txt (.mk a ats D)=([60]++a)++jP ats++[62]++lV D++([60,47]++a++[62]));have g0:(txt (.mk a ats D)).length=1+a.length+(jP ats).length+1+(lV D).length+(2+a.length+1):=by rw[HT.out];simp;omega
    clear a5;have g1:¬(D.length:Int)=0:=aa;go_wp2_with(go_at_call 154;refine(fP c.heap.size b _ [62] _ a4.out (by rw[g];simp;omega) A).mono ?_;rintro e w5 ⟨rfl,a6,a7⟩;have a8:=a7.box S p aC;have p2:=aO a8 2 (aj I D.length J) rfl);have K6:=(K1.trans d).trans a7;have c8:=aA a6;clear a6 p2 m2
    go_loopw [44] (λy wq=>∃q:Nat,q<=D.length/\y=ag q/\Bd c.heap.size b (l++([60]++a)++jP ats++[62]++lV (D.take q)) wq/\DY c.heap.size b w5 wq) (λy _=>D.length-(intOf y).toNat)
    case atStart=>exact⟨0,bf _,rfl,by simpa[lV] using c8.out,DY.refl _ _ _⟩
    case round=>
     obtain⟨q,hq,rfl,a9,m⟩:=hrel;have b0:=aA a9;clear a9;have b1:c.heap.size<=wr.heap.size:=bu (bu hB K6.low.size) m.low.size;have bQ:aD c wr:=(hb.trans K6.low).trans m.low;have c9:=m.box a8 p aC;have H:(l++([60]++a)++jP ats++[62]++lV (D.take q)).length=l.length+(1+a.length)+(jP ats).length+1+(lV (D.take q)).length:=aX;by_cases d3:q<D.length
     .have g2:(q:Int)<(D.length:Int):=aa;obtain⟨kid,i, -⟩:=drop_at d3;obtain⟨b',T,d0,d1,d2,rfl,e0,e1,e2,rZ⟩:=b6.out.get i;rw[fZ] at e0 e1 e2;have o:kid∈D:=gN i;have C:=a5Z D (q+1);rw[Kh i,dJ] at C;have HM:Hid (lV (D.take (q+1))=lV (D.take q)++txt kid):=Kh i;have HI:=IH.out kid o;have h:=VY b8.out o;have Da:=rZ;obtain⟨zw,mF,s⟩:=kid;unfold rJ at Da;obtain⟨rfl, -,⟨o',f,rfl, -⟩,t,jd,rfl, -⟩:=Da;have j0:=(bQ.cell (aK e0)).trans e0;have j1:=(bQ.cell (aK e1)).trans e1;have j2:=(bQ.cell (aK e2)).trans e2;unfold jq at j0 j1 j2 rZ;clear e0 e1 e2 o i;have E:=dN wr #[ak ⟨zw.toArray⟩,aj o' mF.length f,aj t s.length jd] 50;have u0:=aO E 0 (ak ⟨zw.toArray⟩) rfl;have u1:=aO E 1 (aj o' mF.length f) rfl;have u2:=aO E 2 (aj t s.length jd) rfl;have Y:=DY.al (B:=c.heap.size) (b:=b) wr (ai #[ak ⟨zw.toArray⟩,aj o' mF.length f,aj t s.length jd] 50) b1;have r:=b0.out.al (ai #[ak ⟨zw.toArray⟩,aj o' mF.length f,aj t s.length jd] 50);have HC:=HI _ _ _ _ _ rZ h (bQ.trans Y.low) r (by rw[H];omega);clear HI h rZ r E;go_wp2_with(go_at_call 95;refine HC.mono ?_;rintro e w7 ⟨rfl,d4,d6⟩)
      go_roundw
      case rel=>exact⟨q+1,aa,by go_num,by rw[HM.out,<- kV];exact d4,(m.trans Y).trans d6⟩
      case measure=>simp[intOf];omega
     .obtain rfl:q=D.length:=aa;have d7:Hid (Bd c.heap.size b (l++([60]++a)++jP ats++[62]++lV D) wr):=(by have:=b0.out;rwa[gq] at this:Bd c.heap.size b (l++([60]++a)++jP ats++[62]++lV D) wr);have m0:=aO c9 0 (ak ⟨a.toArray⟩) rfl;have g3:2+a.length<=9223372036854775807:=aa;have g4:2+a.length+1<=9223372036854775807:=aa;rw[gq] at H;go_wp2_with(go_at_call 154;rw[M9,M9];refine(fP c.heap.size b _ ([60,47]++a++[62]) _ d7.out (by rw[H];simp;omega) b1).mono ?_;rintro e w8 ⟨rfl,d8,d9⟩)
      go_end0
      refine⟨rfl,?_,(K6.trans m).trans d9⟩;rw[HT.out];simpa using d8
theorem a6c {a:Bs×Bs}(b:iF a.1=true)(c:isVal a.2=true):(atT a).length<=1216:=by
 have:=lC b;have:=pM c;have:=FY a.2;simp[atT];omega
theorem Pq:∀(l:List (Bs×Bs)),(∀a∈l,iF a.1=true/\isVal a.2=true)->(jP l).length<=1216*l.length
 |[],_=>by simp[jP]
 |a::l,h=>by
  have d:=a6c (h a aG).1 (h a aG).2;have e:=Pq l (λb c=>h b (by simp[c]));simp[jP];omega
mutual
theorem VZ:∀(n:Nd) (a ahead:Nat),(iT n a ahead).1=0->(txt n).length+20000*ahead<=20000*(iT n a ahead).2
 | .mk d ats D,a,ahead,h=>by
  have b:ck1 d ats a ahead=0:=by
   unfold iT at h;grind
  rw[FV b] at h⊢;obtain⟨e,g,f⟩:=G8 b;have i:=lC e;have j:=Pq ats f;have c:=W9 D _ _ h;cases D with
  |nil=>rw[Lt];simp[lV] at c⊢;omega
  |cons k r=>rw[EU];simp at c⊢;omega
theorem W9:∀(l:List Nd) (a ahead:Nat),(uj l a ahead).1=0->(lV l).length+20000*ahead<=20000*(uj l a ahead).2
 |[],a,ahead,_=>by simp[lV,uj]
 |k::l,a,ahead,h=>by
  have b:(iT k a ahead).1=0:=by
   unfold uj at h;grind
  rw[rY b] at h⊢;have c:=VZ k _ _ b;have d:=W9 l _ _ h;simp[lV];omega
end
theorem Bd.fresh (B:Nat)(w:ah)(a:B<=w.heap.size):Bd B w.heap.size [] (w.alloc (ai #[.pointer none,aj none 0 0] 187)):=
 .inl ⟨a,aj none 0 0,dN w _ _,World.ownsRowF_of (gp _ _ _ _),by simp[Value.ownBlock]⟩
theorem G9 {B:Nat}{w:ah}:∀(k:Nat) {v:ah},Below B w v->Below B w (v.drewN k):=λ_ _ h=>⟨h.os,h.tape,h.output,h.size,h.block⟩
def a9b (E:Nat->Addr)(B:Nat)(n:Nd)(e:Ending)(w:ah):Prop:=
 ((iT n 1 0).1≠0/\∃a,B<=a/\e=ax (aF #[ak ⟨#[]⟩,aP 67 (aI a)])/\w.cell? (aH a 0)=some (ag (iT n 1 0).2)/\w.cell? (aH a 1)=some (aP 453 (.pointer (some (E (iT n 1 0).1)))))\/
 ((iT n 1 0).1=0/\10000<(txt n).length/\e=ax (aF #[ak ⟨#[]⟩,aP 453 (.pointer (some (E 2)))]))\/
 ((iT n 1 0).1=0/\(txt n).length<=10000/\e=ax (aF #[ak ⟨(txt n).toArray⟩,aU]))
theorem a6d (E:Nat->Addr)(n:Nd)(K L M:au)(W:ah)(hE:ME E W)(r:rJ W K L M n):
  aJ 51 #[.agg #[K,L,M]] W λe w'=>aD W w'/\a9b E W.heap.size n e w':=by
 have s:=r;obtain⟨c,ats,D⟩:=n;unfold rJ at s;obtain⟨rfl, -,⟨f,g,rfl, -⟩,i,j,rfl, -⟩:=s;generalize hN:Nd.mk c ats D=n at r⊢;clear hN;unfold jq at*;have q:=dI W (ai #[ak ⟨c.toArray⟩,aj f ats.length g,aj i D.length j] 50);have x:=jZ W #[ak ⟨c.toArray⟩,aj f ats.length g,aj i D.length j] 50 0 (ak ⟨c.toArray⟩) rfl;have y:=jZ W #[ak ⟨c.toArray⟩,aj f ats.length g,aj i D.length j] 50 1 (aj f ats.length g) rfl;have z:=jZ W #[ak ⟨c.toArray⟩,aj f ats.length g,aj i D.length j] 50 2 (aj i D.length j) rfl;have A:=FW E n _ _ _ _ (hE.below q).ce (rJ.below q n r);unfold a9b;by_cases k:(iT n 1 0).1=0
 .have t:=A.mono (R':=λe w'=>e=ax aU/\Below (W.alloc (ai #[ak ⟨c.toArray⟩,aj f ats.length g,aj i D.length j] 50)).heap.size (W.alloc (ai #[ak ⟨c.toArray⟩,aj f ats.length g,aj i D.length j] 50)) w') (λe w' h=>by
   rcases h.2 with m|m
   .exact⟨m.2,h.1⟩
   .exact(m.1 k).elim)
  have u:=a1A n 1 0 k;have N:(txt n).length<=2000000:=by have:=VZ n 1 0 k;have:=FU n 1 0 k;omega
  have B:=aA k;clear A k;have F:=λb=>Je W b n;unfold Wr at F;by_cases v:10000<(txt n).length
  .have o:10000<((txt n).length:Int):=aa;go_enter func51,ntmps51;go_upto_region 7 with(first|(go_at_call 68;refine t.mono ?_;rintro e l ⟨rfl,a⟩;have O:=dQ (ai #[.pointer none,aj none 0 0] 187) ((a.cell (aK x)).trans x);have P:=dQ (ai #[.pointer none,aj none 0 0] 187) ((a.cell (aK y)).trans y);have Q:=dQ (ai #[.pointer none,aj none 0 0] 187) ((a.cell (aK z)).trans z);have d:=aW q a)|(go_at_call 95;refine(F _ _ _ _ [] _ r u (d.trans ((dI l _).mono d.size)) (Bd.fresh _ l d.size) aX).mono ?_;rintro e R ⟨rfl,C,p⟩;have w:=(d.trans ((dI l _).mono d.size)).trans p.low)|(go_at_call 96;refine(Tryz.Builder_Len_f W.heap.size _ _ _ C).mono ?_;rintro e S ⟨rfl,rfl⟩;rw[Lib.byteCells_length];simp only[gF]));have X:=(hE.below w).c2
   go_quiet (fail)
   go_wp2_with fail
   go_ret2
   exact⟨G9 _ w,.inr (.inl ⟨B.out,v,rfl⟩)⟩
  .have o:((txt n).length:Int)<=10000:=aa;go_enter func51,ntmps51;go_wp2_with(first|(go_at_call 68;refine t.mono ?_;rintro e l ⟨rfl,a⟩;have O:=dQ (ai #[.pointer none,aj none 0 0] 187) ((a.cell (aK x)).trans x);have P:=dQ (ai #[.pointer none,aj none 0 0] 187) ((a.cell (aK y)).trans y);have Q:=dQ (ai #[.pointer none,aj none 0 0] 187) ((a.cell (aK z)).trans z);have d:=aW q a)|(go_at_call 95;refine(F _ _ _ _ [] _ r u (d.trans ((dI l _).mono d.size)) (Bd.fresh _ l d.size) aX).mono ?_;rintro e R ⟨rfl,C,p⟩;have w:=(d.trans ((dI l _).mono d.size)).trans p.low)|(go_at_call 96;refine(Tryz.Builder_Len_f W.heap.size _ _ _ C).mono ?_;rintro e S ⟨rfl,rfl⟩;rw[Lib.byteCells_length];simp only[gF])|(go_at_call 94;refine(Tryz.Builder_String_any_k W.heap.size _ _ _ C w.size).mono ?_;rintro e Y ⟨rfl, -,H, -⟩;simp only[gF]))
   go_ret2
   exact⟨w.trans H,.inr (.inr ⟨B.out,aa,rfl⟩)⟩
 .have I:=A.mono (R':=λe w'=>Below (W.alloc (ai #[ak ⟨c.toArray⟩,aj f ats.length g,aj i D.length j] 50)).heap.size (W.alloc (ai #[ak ⟨c.toArray⟩,aj f ats.length g,aj i D.length j] 50)) w'/\Flt E (W.alloc (ai #[ak ⟨c.toArray⟩,aj f ats.length g,aj i D.length j] 50)).heap.size (iT n 1 0) e w') (λe w' h=>by
   rcases h.2 with m|m
   .exact(k m.1).elim
   .exact⟨h.1,m.2⟩)
  have B:=aA k;clear A k;go_enter func51,ntmps51;go_wp2_with(go_at_call 68;refine I.mono ?_;rintro e l ⟨a,T,J,rfl,U,V⟩)
  go_ret2
  exact⟨aW q a,.inl ⟨B.out,T,bu q.size J,rfl,U,V⟩⟩
end
open Go.RowKit
theorem bg {w:ah}{B:Nat}{e:TypeId}{k:Nat}{v:au}{n:Nat}{b:List au}(h:w.ownsRow B e k v n b):∃o a,v=aj o n a:=by
 rcases h.2 with⟨c,f⟩|⟨g,a,d,c,_⟩
 .grind
 .grind
def bG:List (Bs×Bs)->List au
 |[]=>[]
 |x::r=>[ak ⟨x.1.toArray⟩,ak ⟨x.2.toArray⟩]++bG r
theorem lF:∀a c:List (Bs×Bs),bG (a++c)=bG a++bG c
 |[],_=>rfl
 |x::a,c=>by simp[bG,lF a c]
theorem Dc (a:List (Bs×Bs))(x:Bs×Bs):bG (a++[x])=bG a++[ak ⟨x.1.toArray⟩,ak ⟨x.2.toArray⟩]:=by rw[lF];simp[bG]
theorem yK:∀(M:List (Bs×Bs)) (i:Nat) (x:Bs×Bs),M[i]? =some x->(bG M)[i*2]? =some (jq x.1)/\(bG M)[i*2+1]? =some (jq x.2)
 |[],i,x,h=>by simp at h
 |y::r,0,x,h=>by
  simp at h;subst h;exact⟨rfl,rfl⟩
 |y::r,i+1,x,h=>by
  have:=yK r i x (by simpa using h);rw[show(i+1)*2=i*2+1+1 from by omega,show i*2+1+1+1=(i*2+1)+1+1 from rfl];simp only[bG,fV,gF,List.getElem?_cons_succ];exact this
theorem dO {w:ah}{B k:Nat}{e:TypeId}{v:au}{n:Nat}{b:List au}(h:w.ownsRow B e k v n b)(j:Nat)(u:au)(a:b[j]? =some u):∃g,v.ownBlock=some g/\w.cell? (aH g j)=some u:=by
 obtain⟨m,c⟩:=h;rcases c with⟨_,c⟩|⟨g,d,f,i,o,p,q,r,s,l⟩
 .grind
 .refine⟨g,by rw[i];rfl,?_⟩;rw[<- l,AV] at a;split at a
  .unfold World.cell?;grind
  .cases a
theorem eT {w:ah}{B k:Nat}{e:TypeId}{v:au}{n:Nat}{f:List au}(h:w.ownsRow B e k v n f):∃o a,v=aj o n a/\n<=a/\a<=maxLen/\(o=none->a=0)/\∀g,v.ownBlock=some g->o=some ⟨g,0,none⟩:=by
 rcases h.2 with⟨c,i⟩|⟨g,a,j,d,p,q,l,m,r,s⟩
 .exact⟨none,0,by rw[c,i],aa,aa,λ_=>rfl,λg b=>by rw[c] at b;cases b⟩
 .exact⟨_,a,d,l,m,(λh=>by cases h),(λt b=>by rw[d] at b;cases b;rfl)⟩
theorem di {w w':ah}{B k n:Nat}{e:TypeId}{v:au}{d:List au}(h:w.ownsRow B e k v n d)(hs:∀g,v.ownBlock=some g->w'.heap[g]? =w.heap[g]?):w'.ownsRow B e k v n d:=by
 obtain⟨i,a⟩:=h;refine⟨i,?_⟩;rcases a with a|⟨g,b,c,f,j,l,m⟩
 .exact .inl a
 .exact .inr ⟨g,b,c,f,j,(hs g (by rw[f];rfl)).trans l,m⟩
theorem bD {B k n:Nat}{e:TypeId}{v:au}{a:List au}{w w':ah}(h:w.ownsRow B e k v n a)(b:aD w w'):w'.ownsRow B e k v n a:=
 di h λg c=>b.block g (h.lt g c).2
theorem own_ne {R B k n:Nat}{e:TypeId}{v:au}{a:List au}{w:ah}(h:w.ownsRow B e k v n a)(b:R<B):some R≠v.ownBlock:=λe=>by have:=(h.lt R e.symm).1;omega
theorem zX:(prog.info? 145).map (λi=>(i.zero,i.size,i.bytes))=some (some (.agg #[ak ⟨#[]⟩,ak ⟨#[]⟩]),2,32):=az
theorem zY:(prog.info? 3).map (λi=>(i.zero,i.size,i.bytes))=some (some (ag 0),1,8):=az
def NB (N:Nat)(a b c:au)(w:ah):Prop:=w.heap[N]? =some (ai #[a,b,c] 50)
theorem NB.c0 {N:Nat}{a b c:au}{w:ah}(h:NB N a b c w):w.cell? (aH N 0)=some a:=aO h 0 _ rfl
theorem NB.c1 {N:Nat}{b a c:au}{w:ah}(h:NB N b a c w):w.cell? (aH N 1)=some a:=aO h 1 _ rfl
theorem NB.c2 {N:Nat}{b c a:au}{w:ah}(h:NB N b c a w):w.cell? (aH N 2)=some a:=aO h 2 _ rfl
inductive Tg where
 |doc
 |map
 |el (i:Int)
 |ats (i:Int)
 |kids (i:Int)
abbrev dm:=Nat->Option Tg
def bO (l:List Int):List au:=l.map (Value.int .i64)
theorem Bt (a b:List Int):bO (a++b)=bO a++bO b:=iG
theorem pO (l:List Int):(bO l).length=l.length:=dF ..
theorem pQ {l:List Int}{j:Nat}{k:Int}(h:l[j]? =some k):(bO l)[j]? =some (ag k):=by
 unfold bO;grind
abbrev dV (k:Int):Prop:=(Lit.int .i64 k).wf=true
structure AB (B:Nat)(tg:dm)(w:ah)(i:Int)(b:Nat)(e:gP)(va vk:au):Prop where
 cells:w.heap[b]? =some (ai #[ak ⟨e.name.toArray⟩,va,ag e.parent,vk] 147)
 tag:tg b=some (.el i)
 ats:w.ownsRow B 145 2 va e.ats.length (bG e.ats)
 nO:∀g,va.ownBlock=some g->tg g=some (.ats i)
 kids:w.ownsRow B 3 1 vk e.kids.length (bO e.kids)
 jG:∀g,vk.ownBlock=some g->tg g=some (.kids i)
theorem AB.turn {B:Nat}{c mG:dm}{w w':ah}{i:Int}{b:Nat}{e:gP}{va vk:au}(h:AB B c w i b e va vk)(hs:∀g t,c g=some t->(t=.el i\/t=.ats i\/t=.kids i)->mG g=some t/\w'.heap[g]? =w.heap[g]?):AB B mG w' i b e va vk where
 cells:=((hs b _ h.tag (.inl rfl)).2).trans h.cells
 tag:=(hs b _ h.tag (.inl rfl)).1
 ats:=di h.ats λg a=>(hs g _ (h.nO g a) (.inr (.inl rfl))).2
 nO:=λg a=>(hs g _ (h.nO g a) (.inr (.inl rfl))).1
 kids:=di h.kids λg a=>(hs g _ (h.jG g a) (.inr (.inr rfl))).2
 jG:=λg a=>(hs g _ (h.jG g a) (.inr (.inr rfl))).1
theorem AB.c0 {B:Nat}{a:dm}{w:ah}{i:Int}{b:Nat}{e:gP}{va vk:au}(h:AB B a w i b e va vk):w.cell? (aH b 0)=some (ak ⟨e.name.toArray⟩):=aO h.cells 0 _ rfl
theorem AB.c1 {B:Nat}{a:dm}{w:ah}{i:Int}{b:Nat}{e:gP}{va vk:au}(h:AB B a w i b e va vk):w.cell? (aH b 1)=some va:=aO h.cells 1 _ rfl
theorem AB.c2 {B:Nat}{a:dm}{w:ah}{i:Int}{b:Nat}{e:gP}{va vk:au}(h:AB B a w i b e va vk):w.cell? (aH b 2)=some (ag e.parent):=aO h.cells 2 _ rfl
theorem AB.c3 {B:Nat}{a:dm}{w:ah}{i:Int}{b:Nat}{e:gP}{va vk:au}(h:AB B a w i b e va vk):w.cell? (aH b 3)=some vk:=aO h.cells 3 _ rfl
theorem bq {w:ah}{b:Nat}{cs:Array au}{t:TypeId}(h:w.heap[b]? =some (ai cs t))(i:Nat):w.frozen? ⟨b,i,none⟩=false:=by
 unfold World.frozen?;rw[h];simp
structure bT (B:Nat)(tg:dm)(w:ah)(DB MB:Nat)(p:Int->Option Nat)(M:Dm)(nx c:Nat):Prop where
 doc:w.heap[DB]? =some (ai #[.map (some MB),ag nx] 140)
 mH:tg DB=some .doc
 map:iK prog 3 w MB p nx c
 mJ:tg MB=some .map
 els:∀i e,M i=some e->∃b va vk,p i=some b/\AB B tg w i b e va vk
 non:∀i,M i=none->p i=none
 low:∀b t,tg b=some t->B<=b/\b<w.heap.size
 dom:∀i e,M i=some e->0<=i/\i<nx
 wf:∀i e,M i=some e->dV e.parent/\∀k∈e.kids,dV k
 few:nx<=1000000
 We:∀b i,tg b=some (.el i)\/tg b=some (.ats i)\/tg b=some (.kids i)->i<nx
structure K2 (r n:Nat)(W w:ah):Prop where
 os:w.os=W.os
 tape:w.tape=W.tape
 output:w.output=W.output
 size:W.heap.size<=w.heap.size
 block:∀k,k<W.heap.size->k≠r->k≠n->w.heap[k]? =W.heap[k]?
theorem K2.trans {r n:Nat}{A B C:ah}(h:K2 r n A B)(k:K2 r n B C):K2 r n A C:=
 ⟨k.os.trans h.os,k.tape.trans h.tape,k.output.trans h.output,bu h.size k.size,λi a b c=>(k.block i (dP a h.size) b c).trans (h.block i a b c)⟩
theorem K2.of_below {r n:Nat}{A B:ah}(h:aD A B):K2 r n A B:=⟨h.os,h.tape,h.output,h.size,λi a _ _=>h.block i a⟩
theorem K2.below {r n m:Nat}{A B:ah}(h:K2 r n A B)(a:m<=r)(b:m<=n)(c:m<=A.heap.size):Below m A B:=⟨h.os,h.tape,h.output,h.size,λi d=>h.block i aa aa aa⟩
theorem K2.cell {r n:Nat}{A B:ah}(h:K2 r n A B){b i:Nat}{v:au}(hc:A.cell? (aH b i)=some v)(a:b≠r)(c:b≠n):B.cell? (aH b i)=some v:=by
 rw[qg (h.block b (aK hc) a c)];exact hc
structure KT (tg:dm)(w w':ah):Prop where
 os:w'.os=w.os
 tape:w'.tape=w.tape
 output:w'.output=w.output
 size:w.heap.size<=w'.heap.size
 block:∀b,b<w.heap.size->tg b=none->w'.heap[b]? =w.heap[b]?
theorem KT.of_below {a:dm}{w w':ah}(h:aD w w'):KT a w w':=⟨h.os,h.tape,h.output,h.size,λb c _=>h.block b c⟩
theorem KT.trans {c mG:dm}{w w' a:ah}(h:KT c w w')(k:KT mG w' a)(f:∀b,b<w.heap.size->mG b=c b):KT c w a:=
 ⟨k.os.trans h.os,k.tape.trans h.tape,k.output.trans h.output,bu h.size k.size,λb d e=>(k.block b (dP d h.size) ((f b d).trans e)).trans (h.block b d e)⟩
theorem KT.below {B:Nat}{a:dm}{w w':ah}(h:KT a w w')(c:∀b t,a b=some t->B<=b)(d:B<=w.heap.size):Below B w w':=
 ⟨h.os,h.tape,h.output,h.size,λb e=>h.block b (dP e d) (by
  cases f:a b with
  |none=>rfl
  |some t=>have:=c b t f;omega)⟩
section
variable {B:Nat}{F mG:dm}{w w':ah}{DB I:Nat}{p:Int->Option Nat}{M:Dm}{nx c:Nat}
theorem bT.turn (h:bT B F w DB I p M nx c)(hs:∀g t,F g=some t->w'.heap[g]? =w.heap[g]?)(d:w.heap.size<=w'.heap.size):bT B F w' DB I p M nx c where
 doc:=(hs DB _ h.mH).trans h.doc
 mH:=h.mH
 map:=h.map.same (hs I _ h.mJ)
 mJ:=h.mJ
 els:=λi e f=>by
  obtain⟨b,j,k,l,m⟩:=h.els i e f;exact⟨b,j,k,l,m.turn λg t a _=>⟨a,hs g t a⟩⟩
 non:=h.non
 low:=λb t a=>⟨(h.low b t a).1,dP (h.low b t a).2 d⟩
 dom:=h.dom
 wf:=h.wf
 few:=h.few
 We:=h.We
theorem bT.below (h:bT B F w DB I p M nx c)(a:aD w w'):bT B F w' DB I p M nx c:=
 h.turn (λg t b=>a.block g (h.low g t b).2) a.size
theorem bT.d0 (h:bT B F w DB I p M nx c):w.cell? (aH DB 0)=some (.map (some I)):=aO h.doc 0 _ rfl
theorem bT.d1 (h:bT B F w DB I p M nx c):w.cell? (aH DB 1)=some (ag nx):=aO h.doc 1 _ rfl
theorem bT.i64 (h:bT B F w DB I p M nx c){i:Int}{e:gP}(he:M i=some e):dV i:=by
 have:=h.dom i e he;have:=h.few;exact WalkArith.wf_i64 aa
theorem bT.new (h:bT B F w DB I p M nx c){b:Nat}(d:w.heap.size<=b):F b=none:=by
 cases a:F b with
 |none=>rfl
 |some t=>have:=(h.low b t a).2;omega
theorem bT.put (h:bT B F w DB I p M nx c){i:Int}{e l:gP}{b:Nat}{va vk:au}(hi:M i=some e)(C:p i=some b)(he:AB B mG w' i b l va vk)(_:w.heap.size<=w'.heap.size)(D:dV l.parent/\∀k∈l.kids,dV k)
  (m:∀x,x<w.heap.size->mG x=F x) (s:∀x t,mG x=some t->B<=x/\x<w'.heap.size) (n:∀x,w.heap.size<=x->mG x=none\/mG x=some (.el i)\/mG x=some (.ats i)\/mG x=some (.kids i)) (hs:∀x t,F x=some t->t≠.el i->t≠.ats i->t≠.kids i->w'.heap[x]? =w.heap[x]?):bT B mG w' DB I p (dY M i l) nx c where
 doc:=(hs DB _ h.mH aG aG aG).trans h.doc
 mH:=(m DB (h.low _ _ h.mH).2).trans h.mH
 map:=h.map.same (hs I _ h.mJ aG aG aG)
 mJ:=(m I (h.low _ _ h.mJ).2).trans h.mJ
 els:=λj f d=>by
  unfold dY at d;split at d
  .rename_i a;grind
  .rename_i a;obtain⟨u,o,q,v,y⟩:=h.els j f d;refine⟨u,o,q,v,y.turn λg t n z=>⟨(m g (h.low g t n).2).trans n,hs g t n ?_ ?_ ?_⟩⟩
   all_goals rcases z with rfl|rfl|rfl<;>simp[a]
 non:=λj a=>by
  unfold dY at a;split at a
  .cases a
  .exact h.non j a
 low:=s
 dom:=λj f d=>by
  unfold dY at d;split at d
  .rename_i a;subst a;exact h.dom _ e hi
  .exact h.dom j f d
 wf:=λj f d=>by
  unfold dY at d;split at d
  .grind
  .exact h.wf j f d
 few:=h.few
 We:=λx j a=>by
  by_cases A:x<w.heap.size
  .rw[m x A] at a;exact h.We x j a
  .have r:j=i:=by grind
   rw[r];exact(h.dom i e hi).2
theorem KT.aeS (h:bT B F w DB I p M nx c)(k:K2 DB I w w'):KT F w w':=
 ⟨k.os,k.tape,k.output,k.size,λb d a=>k.block b d (λe=>by rw[e,h.mH] at a;cases a) (λe=>by rw[e,h.mJ] at a;cases a)⟩
end
theorem cO (w:ah):(zeroValue 142).run prog w=.ok (.pointer none) w:=az
structure Yp (B:Nat)(tg:dm)(w:ah)(b:Nat)(e:gP)(va vk:au):Prop where
 cells:w.heap[b]? =some (ai #[ak ⟨e.name.toArray⟩,va,ag e.parent,vk] 147)
 low:B<=b
 tag:tg b=none
 ats:w.ownsRow B 145 2 va e.ats.length (bG e.ats)
 nO:∀g,va.ownBlock=some g->tg g=none/\g≠b
 kids:w.ownsRow B 3 1 vk e.kids.length (bO e.kids)
 jG:∀g,vk.ownBlock=some g->tg g=none/\g≠b/\va.ownBlock≠some g
def ou (a:dm)(i:Int)(b:Nat)(va vk:au):dm:=λx=>if x=b then some (.el i) else if va.ownBlock=some x then some (.ats i) else if vk.ownBlock=some x then some (.kids i) else a x
theorem Ga {a:dm}{i:Int}{b:Nat}{va vk:au}{x:Nat}{t:Tg}(h:a x=some t)(c:a b=none)(d:∀g,va.ownBlock=some g->a g=none)(e:∀g,vk.ownBlock=some g->a g=none):ou a i b va vk x=some t:=by
 unfold ou;grind
theorem Bu {a:dm}{i:Int}{b:Nat}{va vk:au}{x:Nat}(c:x≠b)(d:va.ownBlock≠some x)(e:vk.ownBlock≠some x):ou a i b va vk x=a x:=by
 unfold ou;grind
section
variable {B:Nat}{F:dm}{w w':ah}{DB I:Nat}{p:Int->Option Nat}{M:Dm}{nx c:Nat}
theorem bT.add (h:bT B F w DB I p M nx c){b:Nat}{e:gP}{va vk:au}(a:Yp B F w b e va vk)(K:dV e.parent/\∀k∈e.kids,dV k)(C:nx<1000000)
  (D:iK prog 3 w' I (λi=>if i=(nx:Int) then some b else p i) (nx+1) (c+1)) (E:w'.heap[DB]? =some (ai #[.map (some I),ag ((nx+1:Nat):Int)] 140))
  (hs:∀x,x≠DB->x≠I->w'.heap[x]? =w.heap[x]?) (H:w.heap.size<=w'.heap.size):bT B (ou F nx b va vk) w' DB I (λi=>if i=(nx:Int) then some b else p i) (dY M nx e) (nx+1) (c+1):=by
 have q:∀x t,F x=some t->ou F nx b va vk x=some t:=λx t m=>Ga m a.tag (λg d=>(a.nO g d).1) (λg d=>(a.jG g d).1);have L:∀x t,F x=some t->t≠.doc->t≠.map->x≠DB/\x≠I:=λx t m v y=>⟨λe=>v (fF (m.symm.trans (e▸h.mH))),λe=>y (fF (m.symm.trans (e▸h.mJ)))⟩;have r:∀x,F x=none->x≠DB/\x≠I:=λx u=>⟨λe=>(by rw[e,h.mH] at u;exact absurd u aG),λe=>(by rw[e,h.mJ] at u;exact absurd u aG)⟩;have s:=r b a.tag;refine⟨E,q _ _ h.mH,D,q _ _ h.mJ,λi f l=>?_,λi n=>?_,λx t m=>?_,λi f l=>?_,λi f l=>?_,aa,λx j o=>?_⟩
 .unfold dY at l;by_cases n:i=nx
  .rw[if_pos n] at l;cases l;subst n;refine⟨b,va,vk,aG,⟨(hs b s.1 s.2).trans a.cells,by unfold ou;rw[if_pos rfl],di a.ats λg d=>?_,λg d=>?_,di a.kids λg d=>?_,λg d=>?_⟩⟩
   .have:=r g (a.nO g d).1;exact hs g this.1 this.2
   .unfold ou;rw[if_neg (a.nO g d).2,if_pos d]
   .have:=r g (a.jG g d).1;exact hs g this.1 this.2
   .unfold ou;rw[if_neg (a.jG g d).2.1,if_neg (a.jG g d).2.2,if_pos d]
  .rw[if_neg n] at l;obtain⟨J,z,A,v,y⟩:=h.els i f l;refine⟨J,z,A,by simp only[if_neg n];exact v,y.turn λg t m N=>⟨q g t m,?_⟩⟩;grind
 .unfold dY at n;by_cases o:i=nx
  .grind
  .rw[if_neg o] at n;simp only[if_neg o];exact h.non i n
 .unfold ou at m;split at m
  .rename_i e;subst e;exact⟨a.low,dP (aY a.cells) H⟩
  .split at m
   .rename_i e;have:=a.ats.lt x e;omega
   .split at m
    .rename_i e;have:=a.kids.lt x e;omega
    .have:=h.low x t m;omega
 .unfold dY at l;by_cases n:i=nx
  .omega
  .rw[if_neg n] at l;have:=h.dom i f l;omega
 .unfold dY at l;by_cases n:i=nx
  .grind
  .rw[if_neg n] at l;exact h.wf i f l
 .unfold ou at o;split at o
  .grind
  .split at o
   .grind
   .split at o
    .grind
    .have:=h.We x j o;omega
theorem bT.fresh (h:bT B F w DB I p M nx c):M nx=none/\p nx=none:=by
 have:M nx=none:=by
  cases a:M nx with
  |none=>rfl
  |some e=>have:=h.dom nx e a;omega
 exact⟨this,h.non nx this⟩
theorem bT.ne (h:bT B F w DB I p M nx c):I≠DB:=λe=>by have a:=h.mH;rw[<- e,h.mJ] at a;cases a
end
theorem Pv (B:Nat)(m:dm)(w:ah)(DB g:Nat)(p:Int->Option Nat)(M:Dm)(nx c b:Nat)(e:gP)(va vk:au)(h:bT B m w DB g p M nx c)(A:Yp B m w b e va vk)(C:dV e.parent/\∀k∈e.kids,dV k)(n:nx<1000000):
  aJ 71 #[aI DB,aI b] w λr w'=>r=ax (ag nx)/\K2 DB g w w'/\bT B (ou m nx b va vk) w' DB g (λi=>if i=(nx:Int) then some b else p i) (dY M nx e) (nx+1) (c+1):=by
 have H:=h.d0;have I:=h.d1;have o:=h.fresh;have q:nx<maxLen:=by rw[dh];omega
 have j:=h.ne;go_enter func71,ntmps71;go_wp2_with(at_mapUpdate;refine Yf _ rfl _ _ _ 138 rfl underlying3 underlying138 rfl h.map q (nx:Int) rfl (WalkArith.wf_i64 aa) b rfl o.2 ?_;intro f s a;have l:=(a.grown.block DB (aY h.doc) (λe=>j (fF e).symm)).trans h.doc;have J:=aO l 0 _ rfl;have K:=aO l 1 _ rfl;have L:=bq l);go_ret;have t:=heap_setCell_same f DB 1 _ _ (ag ((nx:Int)+1)) l;have y:∀x,x≠DB->x≠g->(f.setCell ⟨DB,1,none⟩ (ag ((nx:Int)+1))).heap[x]? =w.heap[x]? :=λx u v=>by
  rw[bY _ _ _ x u];by_cases D:x<w.heap.size
  .exact a.grown.block x D (λe=>v (fF e))
  .have:f.heap.size=w.heap.size:=by obtain⟨N,O,E,F, -,rfl⟩:=a;simp[Go.ChangeMaps.setBlock]
   rw[qd aa,qd aa]
 have z:w.heap.size<=(f.setCell ⟨DB,1,none⟩ (ag ((nx:Int)+1))).heap.size:=by
  have:=a.grown.size;have:=((aQ DB f).setCell (p:=⟨DB,1,none⟩) ay (ag ((nx:Int)+1))).size;omega
 have d:=(aQ DB f).setCell (p:=⟨DB,1,none⟩) ay (ag ((nx:Int)+1));refine⟨rfl,⟨d.os.trans a.grown.os,d.tape.trans a.grown.tape,d.output.trans a.grown.output,z,λx _ u v=>y x u v⟩,h.add A C n (s.same (bY _ _ _ g j)) ?_ y z⟩;rw[t];rfl
theorem sj {B:Nat}{g:dm}{w:ah}{DB i:Nat}{p:Int->Option Nat}{M:Dm}{nx c:Nat}(h:bT B g w DB i p M nx c)(n:Int)(d:dV n):
  aJ 104 #[aI DB,ag n] w λr w'=>r=ax (ak ⟨(match M n with|none=>[]|some e=>e.name).toArray⟩)/\w'=w:=by
 have k:=h.d0;cases f:M n with
 |none=>
  have a:=h.non n f;go_enter func104,ntmps104;go_wp2_with(at_lookup;refine jW _ rfl _ _ 138 rfl underlying3 underlying138 (cO _) rfl h.map n rfl d a ?_);go_ret;exact⟨rfl,rfl⟩
 |some e=>
  obtain⟨b,l,m,a,j⟩:=h.els n e f;have o:=j.c0;go_enter func104,ntmps104;go_wp2_with(at_lookup;refine dA _ rfl _ _ 138 rfl underlying3 underlying138 (cO _) rfl h.map n rfl d b a ?_);go_ret;exact⟨rfl,rfl⟩
theorem Gb {B:Nat}{g:dm}{w:ah}{DB i:Nat}{p:Int->Option Nat}{M:Dm}{nx c:Nat}(h:bT B g w DB i p M nx c)(n:Int)(d:dV n):
  aJ 106 #[aI DB,ag n] w λr w'=>r=ax (ag (match M n with|none=> -1|some e=>e.parent))/\w'=w:=by
 have k:=h.d0;cases f:M n with
 |none=>
  have a:=h.non n f;go_enter func106,ntmps106;go_wp2_with(at_lookup;refine jW _ rfl _ _ 138 rfl underlying3 underlying138 (cO _) rfl h.map n rfl d a ?_);go_ret;exact⟨rfl,rfl⟩
 |some e=>
  obtain⟨b,l,m,a,j⟩:=h.els n e f;have o:=j.c2;go_enter func106,ntmps106;go_wp2_with(at_lookup;refine dA _ rfl _ _ 138 rfl underlying3 underlying138 (cO _) rfl h.map n rfl d b a ?_);go_ret;exact⟨rfl,rfl⟩
theorem Bv {B:Nat}{a:dm}{w:ah}{DB b:Nat}{p:Int->Option Nat}{M:Dm}{nx c:Nat}(h:bT B a w DB b p M nx c):
  aJ 204 #[aI DB] w λr w'=>r=ax (ag c)/\w'=w:=by
 have d:=h.d0;go_enter func204,ntmps204;go_wp2_with(at_len;refine a1q _ rfl _ 138 rfl underlying138 rfl h.map ?_);go_ret;exact⟨rfl,rfl⟩
theorem ko:∀l:List (Bs×Bs),(bG l).length=l.length*2
 |[]=>rfl
 |x::r=>by simp[bG,ko r];omega
theorem yL:∀(l:List (Bs×Bs)) (j:Nat) (u:au),(bG l)[j]? =some u->∃i x,l[i]? =some x/\((j=i*2/\u=ak ⟨x.1.toArray⟩)\/(j=i*2+1/\u=ak ⟨x.2.toArray⟩))
 |[],j,u,h=>by simp[bG] at h
 |x::r,0,u,h=>by
  simp[bG] at h;exact⟨0,x,rfl,.inl ⟨rfl,h.symm⟩⟩
 |x::r,1,u,h=>by
  simp[bG] at h;exact⟨0,x,rfl,.inr ⟨rfl,h.symm⟩⟩
 |x::r,j+2,u,h=>by
  have a:(bG r)[j]? =some u:=by simpa[bG] using h
  obtain⟨i,y,b,c⟩:=yL r j u a;exact⟨i+1,y,by simpa using b,c.imp (λh=>⟨aa,h.2⟩) (λh=>⟨aa,h.2⟩)⟩
theorem Gc (l:List (Bs×Bs)):∀u∈bG l,u.oneCell'=true:=λu a=>by
 obtain⟨j,b⟩:=List.getElem?_of_mem a;obtain⟨i,x, -,⟨-,rfl⟩|⟨-,rfl⟩⟩:=yL l j u b<;>rfl
theorem a1C {w:ah}{a:Addr}(h:FQ w (some a) ats):∀j u,(bG ats)[j]? =some u->w.cell? (a.add j)=some u:=λj u e=>by
 obtain⟨i,x,f,g⟩:=yL ats j u e;obtain⟨b,c,l,m,n, -⟩:=h i x f;cases l;have d:∀k,(⟨b,c,none⟩:Addr).add k=⟨b,c+k,none⟩:=λk=>by unfold Addr.add;split<;>simp_all
 rw[d];rcases g with⟨rfl,rfl⟩|⟨rfl,rfl⟩
 .exact m
 .rw[<- Nat.add_assoc];exact n
theorem TA (w:ah)(v:au)(ats:List (Bs×Bs))(h:qU w v ats)(H:ats.length<=1000000):
  aJ 70 #[v] w λe w'=>∃o n k,e=ax (aj o n k)/\w'.ownsRow w.heap.size 145 2 (aj o n k) ats.length (bG ats)/\aD w w':=by
 obtain⟨o,b,rfl,I,J,r,p⟩:=h;have s:∀(w:ah) (a:Option Addr) (n c d f:Nat),(binOp .eql 47 (aj a n c) (aj none d f)).run prog w=.ok (.bool a.isNone) w:=λw a n c d f=>Lib.run_eql_slice_nil w _ _ a n c d f underlying47;obtain⟨t,x,g,i,l⟩:=info_parts zX;cases o with
 |none=>
  have K:=r rfl;have y:ats=[]:=lS.1 aa;subst y;go_enter func70,ntmps70;go_wp2_with fail;go_ret;exact⟨none,0,0,rfl,gp _ _ _ _,aQ _ _⟩
 |some a=>
  have z:Hid (∀j u,(bG ats)[j]? =some u->w.cell? (a.add j)=some u):=a1C p;have A:Hid (∀u∈bG ats,u.oneCell'=true):=Gc ats;clear p;go_enter func70,ntmps70;go_wp2_with(at_builtin;refine wpList_append_own _ rfl _ _ 47 rfl w.heap.size 145 t (.agg #[ak ⟨#[]⟩,ak ⟨#[]⟩]) 2 32 underlying47 x g i l rfl aC _ _ _ rfl (World.ownsRow_made w #[] 0 ay (bf _) aG) a ats.length b (bG ats) rfl (ko ats) (λj u B=>dQ _ (z.out j u B)) A.out (by rw[dh];omega) aa aG ?_;intro L M q C _;obtain⟨D,E,rfl⟩:=bg q);go_ret;exact⟨D,_,E,rfl,by simpa using q,((aQ _ w).alloc ay _).grown C aG (λk F=>by have m:some w.heap.size=some k:=F;cases m;exact Nat.le_refl _)⟩
mutual
def Yq:Nd->Prop
 | .mk _ ats D=>ats.length<=12/\TB D
def TB:List Nd->Prop
 |[]=>True
 |k::l=>Yq k/\TB l
end
theorem Pw:∀{l:List Nd} {k:Nd},TB l->k∈l->Yq k
 |[],_,_,h=>by simp at h
 |a::l,k,h,b=>by
  unfold TB at h;rcases gD.1 b with rfl|b
  .exact h.1
  .exact Pw h.2 b
mutual
theorem Wh:∀(n:Nd) (a ahead:Nat),(iT n a ahead).1=0->Yq n
 | .mk c ats D,a,ahead,h=>by
  unfold iT at h;split at h
  .rename_i b;unfold Yq;exact⟨(G8 b).2.1,Wi D _ _ h⟩
  .rename_i b;exact(b h).elim
theorem Wi:∀(l:List Nd) (a ahead:Nat),(uj l a ahead).1=0->TB l
 |[],_,_,_=>by unfold TB;trivial
 |k::l,a,ahead,h=>by
  by_cases b:(iT k a ahead).1=0
  .rw[rY b] at h;unfold TB;exact⟨Wh k a ahead b,Wi l _ _ h⟩
  .rw[zW b] at h;exact(b h).elim
end
theorem Px (D:List Nd)(i:Nat):nJ (D.take i)<=nJ D:=by
 have:=Ep (D.take i) (D.drop i);rw[jJ] at this;omega
theorem Ki {i:Nat}{k:Nd}(h:D[i]? =some k):D.take (i+1)=D.take i++[k]:=by
 rw[dS,h];rfl

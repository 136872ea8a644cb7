import Derived.Test.YtbkjmamcnflncaaGreatDoorQt10
import Derived.Test.YtbkjmamcnflncaaGreatDoorQt7
namespace Go.Proofs.YtbkjmamcnflncaaGreatDoor
open Go.Proofs.Tryz
set_option maxHeartbeats 2000000
open Go.RowKit
theorem mO:∀{l:List (Bs×Bs)} {i:Nat} {x:Bs×Bs},l[i]? =some x->(bZ l)[i*2]? =some (au ⟨x.1.toArray⟩)/\(bZ l)[i*2+1]? =some (au ⟨x.2.toArray⟩)
 |[],_,_,h=>by simp at h
 |y::l,0,x,h=>by
  simp at h;subst h;exact⟨rfl,rfl⟩
 |y::l,i+1,x,h=>by
  have a:=mO (l:=l) (i:=i) (x:=x) (by simpa using h);rw[show(i+1)*2=i*2+1+1 from by omega];exact⟨by simpa[bZ] using a.1,by simpa[bZ] using a.2⟩
theorem xR:∀(l:List (Bs×Bs)) (nm:Bs) (k:Nat),(fI nm k l= -1/\pQ l nm=none)\/∃i x,fI nm k l=((k+i:Nat):Int)/\l[i]? =some x/\pQ l nm=some x.2
 |[],_,_=>.inl ⟨rfl,rfl⟩
 |x::l,nm,k=>by
  unfold fI pQ;rw[List.find?_cons];cases d:(x.1==nm) with
  |true=>exact .inr ⟨0,x,aI,rfl,rfl⟩
  |false=>
   rcases xR l nm (k+1) with⟨a,b⟩|⟨i,y,a,b,c⟩
   .exact .inl ⟨by simpa using a,b⟩
   .exact .inr ⟨i+1,y,by rw[aG aI,a];congr 1;omega,by simpa using b,c⟩
theorem Uz (x:Bs×Bs)(nm:Bs)(B:Nat)(W:ai)(a:W.cell? (aJ B 0)=some (jD nm)):
  aL 278 #[atV x,aK B] W λe w'=>e=ay (.bool (x.1==nm))/\aD W w':=by
 have b:=λo=>eD o a;unfold atV jD at*;go_enter func278,ntmps278;go_wp2;go_ret;exact⟨rfl,(aW _ W).alloc az _⟩
theorem UA (ats:List (Bs×Bs))(nm:Bs)(B B0:Nat)(v:ax)(W:ai)(h:W.ownsRow B0 145 2 v ats.length (bZ ats))(C:W.cell? (aJ B 0)=some (jD nm)):
  aL 277 #[v,.func (.func 278) #[] #[aK B]] W λe w'=>e=ay (ag (fI nm 0 ats))/\aD W w':=by
 obtain⟨o,I,D,Q,J,K,s⟩:=eT h;have E:(ats.length:Int)<=9223372036854775807:=by rw[dD] at J;omega
 by_cases L:ats.length=0
 .obtain rfl:ats=[]:=lu.1 L;subst D;clear h s;go_enter func277,ntmps277;go_wp2_with fail
  go_loopw [8] (λy wr=>y=ag 0/\wr=W) (λ_ _=>0)
  case atStart=>exact⟨rfl,rfl⟩
  case round=>
   obtain⟨rfl,rfl⟩:=hrel;go_wp2_with fail;go_ret;exact⟨rfl,aW _ _⟩
 .obtain⟨M,i, -⟩:=drop_at (l:=ats) (k:=0) aa;obtain⟨g,t, -⟩:=eF h _ _ (mO i).1;have u:=s g t;subst D u;have N:Hid (∀k x,ats[k]? =some x->W.cell? (aJ g (k*2))=some (au ⟨x.1.toArray⟩)/\W.cell? (aJ g (k*2+1))=some (au ⟨x.2.toArray⟩)):=(λk x j=>by
   obtain⟨R,m,n⟩:=eF h _ _ (mO j).1;obtain⟨S,p,O⟩:=eF h _ _ (mO j).2;rw[t] at m p;cases m;cases p;exact⟨n,O⟩:∀k x,ats[k]? =some x->W.cell? (aJ g (k*2))=some (au ⟨x.1.toArray⟩)/\W.cell? (aJ g (k*2+1))=some (au ⟨x.2.toArray⟩))
  clear h i K s M t;go_enter func277,ntmps277;go_wp2_with fail
  go_loopw [8] (λy wr=>∃k:Nat,k<=ats.length/\y=ag k/\fI nm 0 ats=fI nm k (ats.drop k)/\aD W wr) (λy _=>ats.length-(intOf y).toNat)
  case atStart=>exact⟨0,bA _,rfl,rfl,aW _ _⟩
  case round=>
   obtain⟨k,T,rfl,b,d⟩:=hrel;by_cases w:k<ats.length
   .have F:(k:Int)<(ats.length:Int):=aa;obtain⟨x,j,H⟩:=drop_at w;obtain⟨z,n⟩:=N.out k x j;have U:=(d.cell (aM z)).trans z;have V:=(d.cell (aM n)).trans n;have A:=(d.cell (aM C)).trans C;have q:=Uz x nm B wr A;unfold atV jD at q;rw[H] at b;clear z n j H;cases f:(x.1==nm) with
    |true=>
     rw[f] at q;have a:Hid (fI nm 0 ats=k):=(by rw[b];unfold fI;rw[aR f]:fI nm 0 ats=k);clear b f;go_wp2_with(go_at_call 278;refine q.mono ?_;rintro e P ⟨rfl,c⟩);go_ret;exact⟨by rw[a.out];rfl,bf d c⟩
    |false=>
     rw[f] at q;have r:fI nm k (x::ats.drop (k+1))=fI nm (k+1) (ats.drop (k+1)):=by rw[fI,aG (by rw[f];simp)]
     have a:Hid (fI nm 0 ats=fI nm (k+1) (ats.drop (k+1))):=b.trans r;clear r;clear b f;go_wp2_with(go_at_call 278;refine q.mono ?_;rintro e P ⟨rfl,c⟩)
     go_roundw
     case rel=>exact⟨k+1,aa,by go_num,a.out,bf d c⟩
     case measure=>simp[intOf];omega
   .obtain rfl:k=ats.length:=aa;have a:Hid (fI nm 0 ats= -1):=(by rw[b,List.drop_length];rfl:fI nm 0 ats= -1);clear b;go_wp2_with fail;go_ret;exact⟨by rw[a.out];rfl,d⟩
section
variable {B:Nat}{a:dG}{W:ai}{DB d:Nat}{p:Int->Option Nat}{M:Dm}{nx c:Nat}
theorem wX {i:Int}{b:Nat}{e:ig}{va vk:ax}(he:BK B a W i b e va vk)(nm:Bs):
  aL 211 #[aK b,au ⟨nm.toArray⟩] W λr w'=>r=ay (ag (fI nm 0 e.ats))/\aD W w':=by
 have c:=(aW W.heap.size W).alloc az (ak #[au ⟨nm.toArray⟩] 9);have j:=(c.cell (aM he.c1)).trans he.c1;have f:=bY he.ats c;have g:(W.alloc (ak #[au ⟨nm.toArray⟩] 9)).cell? ⟨W.heap.size,0,none⟩=some (jD nm):=aQ (dY W #[au ⟨nm.toArray⟩] 9) 0 _ rfl;obtain⟨k,l,rfl⟩:=bD he.ats;have h:=UA e.ats nm W.heap.size B _ _ f g;go_enter func211,ntmps211;go_wp2_with(go_at_call 277;refine h.mono ?_;rintro r m ⟨rfl,d⟩);go_ret;exact⟨rfl,bf c d⟩
def UB (M:Dm)(n:Int)(nm:Bs):Option Bs:=match M n with|none=>none|some e=>pQ e.ats nm
theorem nL (h:dm B a W DB d p M nx c)(n:Int)(s:eH n)(nm:Bs):
  aL 169 #[aK DB,ag n,au ⟨nm.toArray⟩] W λr w'=>r=ay (aH #[au ⟨((UB M n nm).getD []).toArray⟩,.bool (UB M n nm).isSome])/\aD W w':=by
 have K:=h.d0;unfold UB;cases u:M n with
 |none=>
  have j:=h.non n u;go_enter func169,ntmps169;go_wp2_with(at_lookup;refine kG _ rfl _ _ 138 rfl underlying3 underlying138 (dA _) rfl h.map n rfl s j ?_);refine bg (v:=aH #[au ⟨#[]⟩,.bool false]) (by simp[results,results169,go_sem]) rfl ⟨rfl,aW _ _⟩
 |some e=>
  obtain⟨b,L,N,j,k⟩:=h.els n e u;have l:=wX k nm;simp only;rcases xR e.ats nm 0 with⟨m,q⟩|⟨i,x,m,q,D⟩
  .rw[m] at l;rw[q];go_enter func169,ntmps169;go_wp2_with(first|(at_lookup;refine dJ _ rfl _ _ 138 rfl underlying3 underlying138 (dA _) rfl h.map n rfl s b j ?_)|(go_at_call 211;refine l.mono ?_;rintro r E ⟨rfl,f⟩));refine bg (v:=aH #[au ⟨#[]⟩,.bool false]) (by simp[results,results169,go_sem]) rfl ⟨rfl,f⟩
  .rw[gq] at m;rw[m] at l;rw[D];obtain⟨g,w,y⟩:=eF k.ats _ _ (mO q).2;obtain⟨o,F,H,O,P,Q,z⟩:=eT k.ats;have t:=z g w;subst H t;have I:=(lK.1 q).1;have J:(i:Int)<(e.ats.length:Int):=aa;have A:=k.c1;have C:=aF y;clear y w z;go_enter func169,ntmps169;go_wp2_with(first|(at_lookup;refine dJ _ rfl _ _ 138 rfl underlying3 underlying138 (dA _) rfl h.map n rfl s b j ?_)|(go_at_call 211;refine l.mono ?_;rintro r E ⟨rfl,f⟩;have R:=(f.cell (aM A)).trans A;have S:=(f.cell (aM C.out)).trans C.out));refine bg (v:=aH #[au ⟨x.2.toArray⟩,.bool true]) (by simp[results,results169,go_sem]) rfl ⟨rfl,f⟩
end
structure E4 (aT aB aS:Addr)(w:ai):Prop where
 e3:E3 aB aS aB w
 t:w.cell? (aJ 1 0)=some (aU 453 (.pointer (some aT)))
theorem E4.below {aT aB aS:Addr}{w w':ai}{B:Nat}(h:E4 aT aB aS w)(a:Below B w w')(b:w.heap.size<=B):E4 aT aB aS w':=⟨h.e3.below a b,(a.cell (fK (aX h.t) b)).trans h.t⟩
theorem rq {m:Mv}(h:m.ok):m.i64:=⟨mG h.1,mG h.2.1,mG h.2.2.1,mG h.2.2.2.1,mG h.2.2.2.2.1,mG h.2.2.2.2.2⟩

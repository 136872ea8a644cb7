import Derived.Test.YtbkjmamcnflncaaGreatDoorQs10
import Derived.Test.YtbkjmamcnflncaaGreatDoorQs7
namespace Go.Proofs.YtbkjmamcnflncaaGreatDoor
open Go.Proofs.Tryz
set_option maxHeartbeats 2000000
open Go.RowKit
theorem mg:∀{l:List (Bs×Bs)} {i:Nat} {x:Bs×Bs},l[i]? =some x->(bG l)[i*2]? =some (ak ⟨x.1.toArray⟩)/\(bG l)[i*2+1]? =some (ak ⟨x.2.toArray⟩)
 |[],_,_,h=>by simp at h
 |y::l,0,x,h=>by
  simp at h;subst h;exact⟨rfl,rfl⟩
 |y::l,i+1,x,h=>by
  have a:=mg (l:=l) (i:=i) (x:=x) (by simpa using h);rw[show(i+1)*2=i*2+1+1 from by omega];exact⟨by simpa[bG] using a.1,by simpa[bG] using a.2⟩
theorem xg:∀(l:List (Bs×Bs)) (nm:Bs) (k:Nat),(fI nm k l= -1/\oM l nm=none)\/∃i x,fI nm k l=((k+i:Nat):Int)/\l[i]? =some x/\oM l nm=some x.2
 |[],_,_=>.inl ⟨rfl,rfl⟩
 |x::l,nm,k=>by
  unfold fI oM;rw[List.find?_cons];cases d:(x.1==nm) with
  |true=>exact .inr ⟨0,x,aG,rfl,rfl⟩
  |false=>
   rcases xg l nm (k+1) with⟨a,b⟩|⟨i,y,a,b,c⟩
   .exact .inl ⟨by simpa using a,b⟩
   .exact .inr ⟨i+1,y,by rw[if_neg aG,a];congr 1;omega,by simpa using b,c⟩
theorem TS (x:Bs×Bs)(nm:Bs)(B:Nat)(W:ah)(a:W.cell? (aH B 0)=some (jq nm)):
  aJ 278 #[atV x,aI B] W λe w'=>e=ax (.bool (x.1==nm))/\aD W w':=by
 have b:=λo=>dQ o a;unfold atV jq at*;go_enter func278,ntmps278;go_wp2;go_ret;exact⟨rfl,(aQ _ W).alloc ay _⟩
theorem TT (ats:List (Bs×Bs))(nm:Bs)(B B0:Nat)(v:au)(W:ah)(h:W.ownsRow B0 145 2 v ats.length (bG ats))(C:W.cell? (aH B 0)=some (jq nm)):
  aJ 277 #[v,.func (.func 278) #[] #[aI B]] W λe w'=>e=ax (ag (fI nm 0 ats))/\aD W w':=by
 obtain⟨o,I,D,Q,J,K,s⟩:=eT h;have E:(ats.length:Int)<=9223372036854775807:=by rw[dh] at J;omega
 by_cases L:ats.length=0
 .obtain rfl:ats=[]:=lS.1 L;subst D;clear h s;go_enter func277,ntmps277;go_wp2_with fail
  go_loopw [8] (λy wr=>y=ag 0/\wr=W) (λ_ _=>0)
  case atStart=>exact⟨rfl,rfl⟩
  case round=>
   obtain⟨rfl,rfl⟩:=hrel;go_wp2_with fail;go_ret;exact⟨rfl,aQ _ _⟩
 .obtain⟨M,i, -⟩:=drop_at (l:=ats) (k:=0) aa;obtain⟨g,t, -⟩:=dO h _ _ (mg i).1;have u:=s g t;subst D u;have N:Hid (∀k x,ats[k]? =some x->W.cell? (aH g (k*2))=some (ak ⟨x.1.toArray⟩)/\W.cell? (aH g (k*2+1))=some (ak ⟨x.2.toArray⟩)):=(λk x j=>by
   obtain⟨R,m,n⟩:=dO h _ _ (mg j).1;obtain⟨S,p,O⟩:=dO h _ _ (mg j).2;rw[t] at m p;cases m;cases p;exact⟨n,O⟩:∀k x,ats[k]? =some x->W.cell? (aH g (k*2))=some (ak ⟨x.1.toArray⟩)/\W.cell? (aH g (k*2+1))=some (ak ⟨x.2.toArray⟩))
  clear h i K s M t;go_enter func277,ntmps277;go_wp2_with fail
  go_loopw [8] (λy wr=>∃k:Nat,k<=ats.length/\y=ag k/\fI nm 0 ats=fI nm k (ats.drop k)/\aD W wr) (λy _=>ats.length-(intOf y).toNat)
  case atStart=>exact⟨0,bf _,rfl,rfl,aQ _ _⟩
  case round=>
   obtain⟨k,T,rfl,b,d⟩:=hrel;by_cases w:k<ats.length
   .have F:(k:Int)<(ats.length:Int):=aa;obtain⟨x,j,H⟩:=drop_at w;obtain⟨z,n⟩:=N.out k x j;have U:=(d.cell (aK z)).trans z;have V:=(d.cell (aK n)).trans n;have A:=(d.cell (aK C)).trans C;have q:=TS x nm B wr A;unfold atV jq at q;rw[H] at b;clear z n j H;cases f:(x.1==nm) with
    |true=>
     rw[f] at q;have a:Hid (fI nm 0 ats=k):=(by rw[b];unfold fI;rw[if_pos f]:fI nm 0 ats=k);clear b f;go_wp2_with(go_at_call 278;refine q.mono ?_;rintro e P ⟨rfl,c⟩);go_ret;exact⟨by rw[a.out];rfl,aW d c⟩
    |false=>
     rw[f] at q;have r:fI nm k (x::ats.drop (k+1))=fI nm (k+1) (ats.drop (k+1)):=by rw[fI,if_neg (by rw[f];simp)]
     have a:Hid (fI nm 0 ats=fI nm (k+1) (ats.drop (k+1))):=b.trans r;clear r;clear b f;go_wp2_with(go_at_call 278;refine q.mono ?_;rintro e P ⟨rfl,c⟩)
     go_roundw
     case rel=>exact⟨k+1,aa,by go_num,a.out,aW d c⟩
     case measure=>simp[intOf];omega
   .obtain rfl:k=ats.length:=aa;have a:Hid (fI nm 0 ats= -1):=(by rw[b,List.drop_length];rfl:fI nm 0 ats= -1);clear b;go_wp2_with fail;go_ret;exact⟨by rw[a.out];rfl,d⟩
section
variable {B:Nat}{a:dm}{W:ah}{DB d:Nat}{p:Int->Option Nat}{M:Dm}{nx c:Nat}
theorem vZ {i:Int}{b:Nat}{e:gP}{va vk:au}(he:AB B a W i b e va vk)(nm:Bs):
  aJ 211 #[aI b,ak ⟨nm.toArray⟩] W λr w'=>r=ax (ag (fI nm 0 e.ats))/\aD W w':=by
 have c:=(aQ W.heap.size W).alloc ay (ai #[ak ⟨nm.toArray⟩] 9);have j:=(c.cell (aK he.c1)).trans he.c1;have f:=bD he.ats c;have g:(W.alloc (ai #[ak ⟨nm.toArray⟩] 9)).cell? ⟨W.heap.size,0,none⟩=some (jq nm):=aO (dN W #[ak ⟨nm.toArray⟩] 9) 0 _ rfl;obtain⟨k,l,rfl⟩:=bg he.ats;have h:=TT e.ats nm W.heap.size B _ _ f g;go_enter func211,ntmps211;go_wp2_with(go_at_call 277;refine h.mono ?_;rintro r m ⟨rfl,d⟩);go_ret;exact⟨rfl,aW c d⟩
def TV (M:Dm)(n:Int)(nm:Bs):Option Bs:=match M n with|none=>none|some e=>oM e.ats nm
theorem mZ (h:bT B a W DB d p M nx c)(n:Int)(s:dV n)(nm:Bs):
  aJ 169 #[aI DB,ag n,ak ⟨nm.toArray⟩] W λr w'=>r=ax (aF #[ak ⟨((TV M n nm).getD []).toArray⟩,.bool (TV M n nm).isSome])/\aD W w':=by
 have K:=h.d0;unfold TV;cases u:M n with
 |none=>
  have j:=h.non n u;go_enter func169,ntmps169;go_wp2_with(at_lookup;refine jW _ rfl _ _ 138 rfl underlying3 underlying138 (cO _) rfl h.map n rfl s j ?_);refine bodyPost_ret (v:=aF #[ak ⟨#[]⟩,.bool false]) (by simp[results,results169,go_sem]) rfl ⟨rfl,aQ _ _⟩
 |some e=>
  obtain⟨b,L,N,j,k⟩:=h.els n e u;have l:=vZ k nm;simp only;rcases xg e.ats nm 0 with⟨m,q⟩|⟨i,x,m,q,D⟩
  .rw[m] at l;rw[q];go_enter func169,ntmps169;go_wp2_with(first|(at_lookup;refine dA _ rfl _ _ 138 rfl underlying3 underlying138 (cO _) rfl h.map n rfl s b j ?_)|(go_at_call 211;refine l.mono ?_;rintro r E ⟨rfl,f⟩));refine bodyPost_ret (v:=aF #[ak ⟨#[]⟩,.bool false]) (by simp[results,results169,go_sem]) rfl ⟨rfl,f⟩
  .rw[fZ] at m;rw[m] at l;rw[D];obtain⟨g,w,y⟩:=dO k.ats _ _ (mg q).2;obtain⟨o,F,H,O,P,Q,z⟩:=eT k.ats;have t:=z g w;subst H t;have I:=(kQ.1 q).1;have J:(i:Int)<(e.ats.length:Int):=aa;have A:=k.c1;have C:=aA y;clear y w z;go_enter func169,ntmps169;go_wp2_with(first|(at_lookup;refine dA _ rfl _ _ 138 rfl underlying3 underlying138 (cO _) rfl h.map n rfl s b j ?_)|(go_at_call 211;refine l.mono ?_;rintro r E ⟨rfl,f⟩;have R:=(f.cell (aK A)).trans A;have S:=(f.cell (aK C.out)).trans C.out));refine bodyPost_ret (v:=aF #[ak ⟨x.2.toArray⟩,.bool true]) (by simp[results,results169,go_sem]) rfl ⟨rfl,f⟩
end
structure E4 (aT aB aS:Addr)(w:ah):Prop where
 e3:E3 aB aS aB w
 t:w.cell? (aH 1 0)=some (aP 453 (.pointer (some aT)))
theorem E4.below {aT aB aS:Addr}{w w':ah}{B:Nat}(h:E4 aT aB aS w)(a:Below B w w')(b:w.heap.size<=B):E4 aT aB aS w':=⟨h.e3.below a b,(a.cell (dP (aR h.t) b)).trans h.t⟩
theorem qF {m:Mv}(h:m.ok):m.i64:=⟨lW h.1,lW h.2.1,lW h.2.2.1,lW h.2.2.2.1,lW h.2.2.2.2.1,lW h.2.2.2.2.2⟩

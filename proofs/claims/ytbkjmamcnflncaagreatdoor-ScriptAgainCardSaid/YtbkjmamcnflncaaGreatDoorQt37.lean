import Derived.Test.YtbkjmamcnflncaaGreatDoorQt27
namespace Go.Proofs.YtbkjmamcnflncaaGreatDoor
open Go.RowKit
set_option maxHeartbeats 8000000
set_option maxRecDepth 20000
def fB (b:aO):UInt8:=match b.data.toList with|[]=>63|c::_=>c
def O9 (a:List aO)(w:Nat):Nat->List UInt8
 |0=>[]
 |k+1=>O9 a w k++((a.drop (w*k)).take w).map fB++[10]
theorem Kq (b:aO)(w:ai):aL 93 #[au b] w λe W=>e=ay (.int .u8 (fB b).toNat)/\W=w:=by
 unfold fB;cases a:b.data.toList with
 |nil=>
  have f:(b.toList==[])=true:=by rw[gN,a];rfl
  have g:b.toList.isEmpty=true:=by rw[gN,a];rfl
  go_enter Tryz.func93,Tryz.ntmps93;go_wp2_with fail;go_ret;exact⟨rfl,rfl⟩
 |cons c r=>
  have g:b.toList.isEmpty=false:=by rw[gN,a];rfl
  have f:(b.toList==[])=false:=by rw[gN,a];rfl
  have i:b.size=r.length+1:=by
   have d:b.data.toList.length=r.length+1:=by rw[a];rfl
   simpa using d
  have j:0<b.size:=aa;have l:∀h:0<b.size,(b[0]'h).toNat=c.toNat:=λh=>by
   have d:b.data.toList[0]? =some c:=by rw[a];rfl
   rw[a1e] at d;obtain⟨m,k⟩:=eY.1 d;exact congrArg UInt8.toNat k
  clear i a;go_enter Tryz.func93,Tryz.ntmps93;go_wp2_with fail;go_ret;exact⟨rfl,rfl⟩
theorem Jh (a:List aO)(w:Nat):∀k,(O9 a w k).length<=(w+1)*k
 |0=>bA _
 |k+1=>by
  have b:=Jh a w k;rw[O9,dO,dO,dP,Nat.mul_succ];grind
theorem SX (a:List aO)(w h g cp B:Nat)(W:ai)(b7:1<=w)(hw:w<=40)(hh:h<=40)(hc:W.ownsRow B 9 1 (aj (some ⟨g,0,none⟩) (w*h) cp) (w*h) (a.map au)):
  aL 50 #[.agg #[ag w,ag h,aj (some ⟨g,0,none⟩) (w*h) cp]] W λe w'=>e=ay (au ⟨(O9 a w h).toArray⟩)/\aD W w':=by
 have I:a.length=w*h:=by have:=hc.1;simpa using this
 obtain⟨oo,cc,R,b8,b9, -, -⟩:=eT hc;cases R;have S:=dz W (ak #[ag w,ag h,aj (some ⟨g,0,none⟩) (w*h) cp] 81);have r0:=fE W (ak #[ag w,ag h,aj (some ⟨g,0,none⟩) (w*h) cp] 81);have c0:w*h<=1600:=Nat.mul_le_mul hw hh;go_enter Tryz.func50,Tryz.ntmps50;go_upto_region 2 with fail;obtain⟨V,Y⟩:∃V,W.alloc (ak #[ag w,ag h,aj (some ⟨g,0,none⟩) (w*h) cp] 81)=V:=⟨_,rfl⟩;have Oq:V.heap.size=W.heap.size+1:=by rw[<- Y];simp
 rw[Y] at S r0⊢;have O:=dz V (ak #[.pointer none,aj none 0 0] 187);have Z:=BdP.fresh V.heap.size V az;unfold aD at O;rw[Oq] at Z O;obtain⟨U,hU⟩:∃U,V.alloc (ak #[.pointer none,aj none 0 0] 187)=U:=⟨_,rfl⟩;rw[hU] at O Z⊢;clear Y hU;have f:∀X,Below (W.heap.size+1) V X->X.cell? ⟨W.heap.size,0,none⟩=some (ag w)/\X.cell? ⟨W.heap.size,1,none⟩=some (ag h)/\X.cell? ⟨W.heap.size,2,none⟩=some (aj (some ⟨g,0,none⟩) (w*h) cp)/\∀j b,a[j]? =some b->X.cell? (aJ g j)=some (au b):=λX J=>by
  have n:=(J.block W.heap.size aa).trans r0;refine⟨by simp[World.cell?,n],by simp[World.cell?,n],by simp[World.cell?,n],λj b hj=>?_⟩;obtain⟨g',a4,r⟩:=eF hc j (au b) (by rw[jv,hj];rfl);cases a4;have H:=aX r;exact((J.cell (p:=⟨g,j,none⟩) (by simp at H⊢;omega)).trans (S.cell (p:=⟨g,j,none⟩) H)).trans r
 have WB:∀(l:List UInt8) (c:UInt8) X,BdP (W.heap.size+1) (W.heap.size+1) l X->Below (W.heap.size+1) V X->l.length<=100000->aL 92 #[.pointer (some ⟨W.heap.size+1,0,none⟩),.int .u8 c.toNat] X λe w'=>e=ay aY/\BdP (W.heap.size+1) (W.heap.size+1) (l++[c]) w'/\Below (W.heap.size+1) V w':=λl c X n J hl=>(IM (W.heap.size+1) (W.heap.size+1) l c X n aa (by have:=J.size;omega)).mono λe w' ⟨r,H,h3⟩=>⟨r,H,J.trans h3.low⟩;have FB:=Kq;have KU:=f U O;obtain⟨k0,k1,k2, -⟩:=KU;have a5:=aF I;clear I hc;go_wp2_with fail
 go_loopw [4,5] (λu v wr=>∃(k o d q:Nat) (A:Addr),k<=h/\u=aj (some A) d q/\v=ag k/\o=w*k/\d=w*(h-k)/\q+o=cp/\(k<h->A=⟨g,o,none⟩)/\BdP (W.heap.size+1) (W.heap.size+1) (O9 a w k) wr/\Below (W.heap.size+1) V wr) (λ_ v _=>h-(intOf v).toNat)
 case atStart=>exact⟨0,0,w*h,cp,⟨g,0,none⟩,bA _,rfl,rfl,rfl,rfl,rfl,λ_=>rfl,Z,O⟩
 case round=>
  obtain⟨k,o,d,q,A,hk,rfl,rfl,P,s,t,hA,y,n⟩:=hrel;obtain⟨m0,m1, -,m3⟩:=f wr n;have z:d+o=w*h:=by rw[P,s,<- Nat.mul_add];congr 1;omega
  have HO:Hid (o=w*k/\d=w*(h-k)/\q+o=cp/\d+o=w*h):=⟨P,s,t,z⟩;have c1:d<=q:=aa;have a6:(O9 a w k).length<=2000:=bO (Jh a w k) (bO (Nat.mul_le_mul (show w+1<=41 by omega) (show k<=40 by omega)) aC);by_cases a7:k<h
  .have b4:(k:Int)<(h:Int):=aa;have a8:=hA a7;subst a8;have c2:w<=d:=by
    rw[s];have:=Nat.mul_le_mul_left w (show 1<=h-k by omega);omega
   have K:w*(h-(k+1))=d-w:=by
    rw[s,show h-k=(h-(k+1))+1 from by omega,Nat.mul_succ];omega
   have L:=aF K;have b5:(0:Int)<(d:Int):=aa;have c3:(0:Int)<(w:Int):=aa;have b6:min (w:Int) (d:Int)=(w:Int):=aa;have c4:(w:Int)<=(d:Int):=aa;have c5:(w:Int)<=(q:Int):=aa;clear K P s t z hA;obtain⟨Q,c6,a9⟩:∃Q:Addr,(if q=w then some (⟨g,o,none⟩:Addr) else some ⟨g,o+w,none⟩)=some Q/\Hid (w<d->Q=⟨g,o+w,none⟩):=by
    by_cases hc:q=w
    .exact⟨⟨g,o,none⟩,by simp[hc],λr=>aa⟩
    .exact⟨⟨g,o+w,none⟩,by simp[hc],λ_=>rfl⟩
   have c7:w<=q:=aa;go_wp2_with fail;obtain⟨T,hT⟩:∃T,O9 a w k=T:=⟨_,rfl⟩;rw[hT] at y a6;have HT:=aF hT;clear hT m0 m1;have M:decide (0<d)=true:=decide_eq_true aa;rw[M];clear M
   go_loopw [40] (λi wx=>∃j:Nat,j<=w/\i=ag j/\BdP (W.heap.size+1) (W.heap.size+1) (T++((a.drop o).take j).map fB) wx/\Below (W.heap.size+1) V wx) (λi _=>w-(intOf i).toNat)
   case atStart=>exact⟨0,bA _,rfl,by simpa using y,n⟩
   case round=>
    obtain⟨j,hj,rfl,N,C⟩:=hrel;have c8:(T++((a.drop o).take j).map fB).length<=3000:=by
     rw[dO,dP,iR];omega
    by_cases c9:j<w
    .have d0:(j:Int)<(w:Int):=aa;obtain⟨b,D⟩:∃b,a[o+j]? =some b:=⟨_,fD (by have r:=a5.out;have H:=HO.out.2.2.2;omega)⟩;obtain⟨-, -, -,m⟩:=f _ C;have d1:=m _ b D;have W1:=WB _ (fB b) _ N C aa;have b2:Hid ((a.drop o).take (j+1)=(a.drop o).take j++[b]):=(by rw[eX,List.getElem?_drop,D];rfl:(a.drop o).take (j+1)=(a.drop o).take j++[b]);clear m D;go_wp2_with(first|(go_at_call 92;refine W1.mono ?_;rintro e w2 ⟨rfl,E,F⟩)|(go_at_call 93;refine(FB _ _).mono ?_;rintro e x ⟨rfl,hx⟩;rw[hx];clear hx))
     go_roundw
     case rel=>exact⟨j+1,aa,by go_num,by rw[b2.out,iK,<- lF];exact E,F⟩
     case measure=>simp[intOf];omega
    .obtain rfl:j=w:=aa;have W2:=WB _ 10 _ N C aa;have d2:(k:Int)+1<=100:=aa;go_wp2_with(go_at_call 92;refine W2.mono ?_;rintro e w2 ⟨rfl,E,F⟩)
     go_roundw
     case rel=>
      obtain⟨r,H,h3,h4⟩:=HO.out;refine⟨k+1,o+j,d-j,q-j,Q,aa,rfl,by go_num,by rw[r,Nat.mul_succ],L.out.symm,aa,λhh=>a9.out ?_,?_,F⟩
      .have h5:=L.out;have h6:1<=h-(k+1):=aa;have h7:=Nat.mul_le_mul_left j h6;omega
      .rw[O9,HT.out,<- r];exact E
     case measure=>simp[intOf];omega
  .obtain rfl:k=h:=aa;have d3:d=0:=by rw[s];simp
   have SB:=Tryz.Builder_String_any_k (W.heap.size+1) (W.heap.size+1) _ wr y (by have:=n.size;omega);clear s P t z hA;go_wp2_with(go_at_call 94;refine SB.mono ?_;rintro e w4 ⟨rfl,d4,b3, -⟩);go_ret;exact⟨rfl,S.trans ((n.trans b3).mono aa)⟩

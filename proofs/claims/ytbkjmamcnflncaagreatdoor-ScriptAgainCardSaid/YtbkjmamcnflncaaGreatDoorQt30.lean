import Derived.Test.YtbkjmamcnflncaaGreatDoorQt29
import Derived.Laws.CopyOwn
namespace Go.Proofs.YtbkjmamcnflncaaGreatDoor
open Go.Proofs.Tryz
open Go.RowKit
set_option maxHeartbeats 16000000
set_option maxRecDepth 20000
def vv (l:List Pm)(n:Nat)(c:List aO)(y:Nat):List aO:=c.take (n*y)++uk bT l n (y:Int)++c.drop (n*y+n)
theorem LZ (b:List Pc)(n:Nat):∀(R:List Nat) (c:List aO),IZ c b n R=R.foldl (vv (b.map iB) n) c
 |[],_=>rfl
 |y::R,c=>by rw[IZ,LZ b n R,List.foldl_cons];rfl
theorem a3V {B:Nat}(w:ai)(v:ax)(L:List aO)(h:w.ownsRow B 9 1 v L.length (L.map au))(J:L.length<=1000000):
  aL 91 #[v] w λe w'=>∃o k,e=ay (aj o L.length k)/\w'.ownsRow w.heap.size 9 1 (aj o L.length k) L.length (L.map au)/\aD w w':=by
 have s:∀(w:ai) (a:Option Addr) (n c b d:Nat),(binOp .eql 22 (aj a n c) (aj none b d)).run prog w=.ok (.bool a.isNone) w:=λw a n c b d=>Lib.run_eql_slice_nil w _ _ a n c b d underlying22;obtain⟨t,x,f,i,l⟩:=info_parts NL;rcases h.2 with⟨rfl,y⟩|⟨g,m,z,rfl,_,_,K,M,_,_⟩
 .have A:L=[]:=lu.1 y;subst A;go_enter func91,ntmps91;go_wp2_with fail;go_ret;exact⟨none,0,rfl,gp _ _ _ _,aW _ _⟩
 .have C:Hid (∀j u,(L.map Value.string)[j]? =some u->(w.alloc (ak #[] 9)).cell? ((⟨g,0,none⟩:Addr).add j)=some u):=λj u D=>by
   have q:=Bu h j u D;exact((dz w _).cell (aX q)).trans q
  clear h;go_enter func91,ntmps91;go_wp2_with(at_builtin;refine wpList_append_own _ rfl _ _ 22 rfl w.heap.size 9 t (au ⟨#[]⟩) 1 16 underlying22 x f i l rfl aC _ _ _ rfl (World.ownsRow_made w #[] 0 az (bA _) aI) ⟨g,0,none⟩ L.length m (L.map au) rfl aI C.out (NP L) (by simp only[maxLen];omega) aa aI ?_;intro N O r E _;obtain⟨F,H,rfl⟩:=bD r);go_ret;refine⟨F,H,aI,by simpa using r,((aW _ w).alloc az _).grown E aI (λk I=>by have p:some w.heap.size=some k:=I;cases p;exact bJ _)⟩
def spl (a:Array ax)(off:Nat)(cs:List ax):Array ax:=(a.toList.take off++cs++a.toList.drop (off+cs.length)).toArray
theorem a8l {w:ai}{B g n b off:Nat}{c cs:List ax}{a:Array ax}(f:B<=g)(h:w.heap[g]? =some (ak a 9 (0,0)))(i:n<=b)(j:b<=maxLen)(hs:a.size=b*1)(e:a.toList.take (n*1)=c)(o:off+cs.length<=n):
  (w.setRow g (spl a off cs)).ownsRow B 9 1 (aj (some ⟨g,0,none⟩) n b) n (c.take off++cs++c.drop (off+cs.length)):=by
 have k:a.toList.length=b:=by grind
 have d:c.length=n:=by grind
 refine⟨by rw[dO,dO,iR,lC,d];omega,.inr ⟨g,b,_,rfl,f,setRow_heap w g _ _ _ _ h,i,j,?_,?_⟩⟩
 .simp[spl,k];omega
 .rw[Nat.mul_one] at e⊢;unfold spl;have m:(a.toList.take off).length=off:=by grind
  rw[<- e,List.take_take,Nat.min_eq_left aa,lF,lF,List.drop_take,List.take_append,jH (l:=a.toList.take off) aa,m,List.take_append,jH (l:=cs) aa,Nat.sub_sub]
theorem F4 (aB aS aZ aV:Addr)(l:List P5)(o:Option Addr)(A n h:Nat)(a:List aO)(B:Nat)(cv:ax)(R:List Nat)(B2:Nat)(rv:ax)(w:ai)(a4:1<=n)(hn:n<=40)(Ba:1<=h)(hh:h<=40)(hl:l.length<=1000)(hR:EW w o A l)(hP:lq w l)(hE:EP aB aS aZ aV w)
  (hc:w.ownsRow B 9 1 cv (n*h) (a.map au)) (T:a.length=n*h) (hr:w.ownsRow B2 3 1 rv R.length (di (R.map λ(y:Nat)=>(y:Int)))) (f9:R.length<=1000) (b7:∀y∈R,y<h):
  aL 87 #[.agg #[ag n,ag h,cv],aj o l.length A,rv] w λe W=>((nS l/\∃v,e=ay (aH #[.agg #[ag n,ag h,v],aY])/\W.ownsRow w.heap.size 9 1 v (n*h) ((R.foldl (vv (sP l) n) a).map au))\/(¬nS l/\∃C,Kb aB aS aV l w.heap.size C W/\e=ay (aH #[.agg #[ag 0,ag 0,aj none 0 0],aU 67 (aK C)])))/\aD w W:=by
 obtain⟨X,Y,b8⟩:=bD hc;subst b8;obtain⟨Vz,VA,Zj⟩:=bD hr;subst Zj;have b0:=dz w (ak #[ag n,ag h,aj X (n*h) Y] 81);have r0:=fE w (ak #[ag n,ag h,aj X (n*h) Y] 81);have Z:=dz (w.alloc (ak #[ag n,ag h,aj X (n*h) Y] 81)) (ak #[ag 0,ag 0,aj none 0 0] 81);have s:=fE (w.alloc (ak #[ag n,ag h,aj X (n*h) Y] 81)) (ak #[ag 0,ag 0,aj none 0 0] 81);rw[dV] at s;go_enter func87,ntmps87;go_upto_region 1 with fail;obtain⟨U,hU⟩:∃U,(w.alloc (ak #[ag n,ag h,aj X (n*h) Y] 81)).alloc (ak #[ag 0,ag 0,aj none 0 0] 81)=U:=⟨_,rfl⟩;have b2:=aP b0 Z;have r1:=(Z.block _ (eY.1 r0).1).trans r0;rw[hU] at b2 r1 s⊢;clear hU b0 Z r0;have CK:=xz aB aS aZ aV l o A U hl (hR.below b2).at_ (hP.below b2 az) (hE.below b2 az);go_upto_region 2 with(go_at_call 74;refine CK.mono ?_;rintro e K ⟨hk,b1⟩;obtain⟨v,rfl,hv⟩:∃v,e=ay v/\((nS l/\v=aY)\/(¬nS l/\∃C,Hid (Kb aB aS aV l U.heap.size C K)/\v=aU 67 (aK C))):=(by rcases hk with⟨k1,b⟩|⟨C,k1,b⟩;exact⟨_,b,.inl ⟨k1,rfl⟩⟩;exact⟨_,b,.inr ⟨CW (by obtain⟨q,x,r,J, -,D, -⟩:=k1;exact⟨x,by rw[J];simp,D⟩),C,k1,rfl⟩⟩));have g0:w.heap.size+2<=U.heap.size:=by have:=bu s;omega
 clear CK hk;have zI:=aP b2 b1;have p1:=(b1.block _ (eY.1 r1).1).trans r1;have q1:=(b1.block _ (eY.1 s).1).trans s;clear r1 s;rcases hv with⟨a5,rfl⟩|⟨b9,C,c3,rfl⟩
 .obtain⟨c0,c1,c2,f0,f1,f2⟩:=pF.of p1;have CT:=a3V K _ a (by rw[T];exact bY hc zI) (by rw[T];have:=Nat.mul_le_mul hn hh;omega);rw[T] at CT;have CT:=CT.mono (R':=λe t=>∃o k,e=ay (aj o (n*h) k)/\t.cell? ⟨w.heap.size,2,none⟩=some (aj X (n*h) Y)/\t.frozen? ⟨w.heap.size,2,none⟩=false/\Hid (t.ownsRow K.heap.size 9 1 (aj o (n*h) k) (n*h) (a.map au)/\aD K t/\t.heap[w.heap.size]? =some (ak #[ag n,ag h,aj X (n*h) Y] 81))) λe t ⟨o,k,L,h2,h3⟩=>by
    have p2:=(h3.block _ (eY.1 p1).1).trans p1;obtain⟨-, -,D, -, -,g2⟩:=pF.of p2;exact⟨o,k,L,D,g2,h2,h3,p2⟩
  go_upto_region 5 with(go_at_call 91;refine CT.mono ?_;rintro e t ⟨O,b,rfl,D,g2,H2⟩);obtain⟨Cr,M,p2⟩:=H2.out;have p3:(t.setCell ⟨w.heap.size,2,none⟩ (aj O (n*h) b)).heap[w.heap.size]? =some (ak #[ag n,ag h,aj O (n*h) b] 81):=by
   rw[heap_setCell_same t w.heap.size 2 _ _ _ p2];rfl
  have Q:w.heap.size<K.heap.size:=(eY.1 p1).1;have yP:(t.setCell ⟨w.heap.size,2,none⟩ (aj O (n*h) b)).ownsRow K.heap.size 9 1 (aj O (n*h) b) (n*h) (a.map au):=jN Cr Q _;have b3:aD w (t.setCell ⟨w.heap.size,2,none⟩ (aj O (n*h) b)):=(aP zI M).setCell az _;have q3:(t.setCell ⟨w.heap.size,2,none⟩ (aj O (n*h) b)).heap[w.heap.size+1]? =some (ak #[ag 0,ag 0,aj none 0 0] 81):=(dw _ _ _ (w.heap.size+1) aI).trans ((M.block _ (eY.1 q1).1).trans q1);obtain⟨V,hV⟩:∃V,t.setCell ⟨w.heap.size,2,none⟩ (aj O (n*h) b)=V:=⟨_,rfl⟩;rw[hV] at p3 yP b3 q3⊢;have a6:K.heap.size<=V.heap.size:=by rw[<- hV,nu];exact M.size
  have E:Hid (w.heap.size+1<K.heap.size):=(eY.1 q1).1;obtain⟨B1,a7⟩:∃B1,K.heap.size=B1:=⟨_,rfl⟩;rw[a7] at E yP a6 Q;clear hV CT D g2 H2 Cr M p2 c0 c1 c2 f0 f1 f2 p1 q1 zI a7;obtain⟨g,cp,d,c6,c7,g1,c8,c9,g3,g6⟩:∃g cp d,(Value.slice O (n*h) b)=aj (some ⟨g,0,none⟩) (n*h) cp/\B1<=g/\V.heap[g]? =some (ak d 9 (0,0))/\n*h<=cp/\cp<=maxLen/\d.size=cp*1/\d.toList.take (n*h*1)=a.map au:=by
   rcases yP.2 with⟨-,h0⟩|h0
   .have:=Nat.mul_pos a4 Ba;omega
   .exact h0
  cases c6;go_wp2_with fail
  go_loopw [25] (λi wr=>∃(k:Nat),k<=R.length/\i=ag k/\wr.heap[w.heap.size]? =some (ak #[ag n,ag h,aj (some ⟨g,0,none⟩) (n*h) b] 81)/\wr.heap[w.heap.size+1]? =some (ak #[ag 0,ag 0,aj none 0 0] 81)/\wr.ownsRow B1 9 1 (aj (some ⟨g,0,none⟩) (n*h) b) (n*h) (((R.take k).foldl (vv (sP l) n) a).map au)/\aD w wr/\B1<=wr.heap.size) (λi _=>R.length-(intOf i).toNat)
  case atStart=>exact⟨0,bA _,rfl,p3,q3,yP,b3,a6⟩
  case round=>
   obtain⟨k,hk,rfl,hp,hq,f,hb,d1⟩:=hrel;obtain⟨c0,c1,c2,f0,f1,f2⟩:=pF.of hp;by_cases d3:k<R.length
   .have f8:(k:Int)<(R.length:Int):=aa;obtain⟨y,hy⟩:∃y,R[k]? =some y:=⟨_,fD d3⟩;have d4:=b7 y (ic hy);obtain⟨g',d6,g7⟩:=eF (bY hr hb) k (ag (y:Int)) (by rw[di,jv,jv,hy];rfl);obtain⟨oo,co,d7, -, -, -,a8⟩:=eT hr;cases d7;have d8:=a8 g' d6;subst d8;have RW:=acm aB aS aZ aV l o A n (y:Int) wr a4 hn aa aa hl (hR.below hb) (hP.below hb az) (hE.below hb az);have S:n*y+n<=n*h:=by have:=Nat.mul_le_mul_left n d4;rw[Nat.mul_succ] at this;exact this
    have g8:n*h<=1600:=Nat.mul_le_mul hn hh;obtain⟨off,m⟩:∃off,n*y=off:=⟨_,rfl⟩;have g9:(y:Int)*(n:Int)=(off:Int):=by rw[<- m];push_cast;exact Int.mul_comm _ _
    have a9:aL 149 #[aj o l.length A,ag n,ag y] wr λe c=>∃F H,e=ay (aH #[aj (some ⟨F,0,none⟩) n H,aY])/\c.cell? ⟨w.heap.size,2,none⟩=some (aj (some ⟨g,0,none⟩) (n*h) b)/\c.cell? ⟨w.heap.size,0,none⟩=some (ag n)/\∃d,c.heap[g]? =some (ak d 9 (0,0))/\Hid (c.ownsRow wr.heap.size 9 1 (aj (some ⟨F,0,none⟩) n H) n ((uk bT (sP l) n y).map au)/\aD wr c/\d.size=b*1/\d.toList.take (n*h*1)=((R.take k).foldl (vv (sP l) n) a).map au):=RW.mono λe c ⟨L,h2⟩=>by
     rcases L with⟨-,v,L,h3⟩|⟨L, -⟩
     .obtain⟨F,H,rfl, -, -⟩:=h3.form aa;have d9:=(h2.block _ (eY.1 hp).1).trans hp;obtain⟨d0, -,d2, -, -, -⟩:=pF.of d9;rcases(bY f h2).2 with⟨h5, -⟩|⟨g5,c5,e7,h5, -,h6, -, -,h7,h8⟩
      .cases h5
      .cases h5;exact⟨F,H,L,d2,d0,e7,h6,h3,h2,h7,h8⟩
     .exact absurd a5 L
    have HY:=aF hy;have HH:=aF m;have h9:off+n<=n*h:=by rw[<- m];exact S
    clear RW hy m S hr a8;have b5:=xw bT (sP l) n (y:Int);clear f;have i0:(off:Int)<=((n*h:Nat):Int):=aa;have i1:(off:Int)<(b:Int):=aa;obtain⟨z,I⟩:∃z,(uk bT (sP l) n (y:Int)).map Value.string=z:=⟨_,rfl⟩;have p:z.length=n:=by rw[<- I,dP,b5]
    have e8:∀(c:ai) (F H:Nat) (N:Array ax),c.heap[g]? =some (ak N 9 (0,0))->N.size=b*1->c.ownsRow wr.heap.size 9 1 (aj (some ⟨F,0,none⟩) n H) n z->∀ty,(Builtin.copy_ #[22,22] ty #[aj (some ⟨g,off,none⟩) (n*h-off) (b-off),aj (some ⟨F,0,none⟩) n H]).run prog c=.ok (ag n) (c.setRow g (spl N off z)):=λc F H N L h2 h3 ty=>by
     have h4:=run_copy_row (P:=prog) c 22 22 ty 9 g off (n*h-off) (b-off) ⟨F,0,none⟩ n H N 9 z underlying22 aA L (by rw[p];exact(Nat.min_eq_left aa).symm) (Bu h3) aa (by rw[<- I];exact NP _);rw[show goInt (z.length:Int)=ag (n:Int) from by rw[p];rfl] at h4;exact h4
    rw[I] at a9;have e9:Hid ((uk bT (sP l) n (y:Int)).map Value.string=z/\z.length=n):=⟨I,p⟩;clear I p b5;go_wp2_with(go_at_call 149;refine a9.mono ?_;rintro e c ⟨F,H,rfl,d2,d0,N,b6,H4⟩;have CP:=e8 c F H N b6 H4.out.2.2.1 H4.out.1)
    go_roundw
    case rel=>
     obtain⟨-,b4,f3,f4⟩:=H4.out;obtain⟨f5,f6⟩:=e9.out;have E:=E.out;have f7:=aP hb b4;have J:∀j,j≠g->(c.setRow g (spl N off z)).heap[j]? =c.heap[j]? :=λj hj=>setRow_other c g j _ hj;refine⟨k+1,aa,by go_num,?_,?_,?_,below_setRow f7 aa _,?_⟩
     .rw[J _ aa];exact(b4.block _ (eY.1 hp).1).trans hp
     .rw[J _ aa];exact(b4.block _ (eY.1 hq).1).trans hq
     .have h5:=a8l (B:=B1) (off:=off) (cs:=z) c7 b6 c8 c9 f3 f4 aa;rw[eX,HY.out,List.foldl_append];show World.ownsRow _ _ _ _ _ _ ((vv (sP l) n ((R.take k).foldl (vv (sP l) n) a) y).map Value.string);unfold vv;rw[iK,iK,List.map_take,List.map_drop,HH.out,f5];rw[f6] at h5;exact h5
     .have h6:(c.setRow g (spl N off z)).heap.size=c.heap.size:=by simp[World.setRow]
      rw[h6];exact bO d1 b4.size
    case measure=>simp[intOf];omega
   .obtain rfl:k=R.length:=aa;rw[gJ] at f;obtain⟨q0,q1,q2,z0,z1,z2⟩:=pF.of hq;go_wp2_with fail;have r4:=NM hq (ag n) (ag h) (aj (some ⟨g,0,none⟩) (n*h) b);obtain⟨e0,J,D, -, -, -⟩:=pF.of r4;refine bg (v:=aH #[.agg #[ag n,ag h,aj (some ⟨g,0,none⟩) (n*h) b],aY]) (by simp[results,results87,go_sem,e0,J,D]) rfl ?_;have E:=E.out;refine⟨.inl ⟨a5,_,rfl,?_⟩,((hb.setCell aI _).setCell aI _).setCell aI _⟩;exact gz (jN (jN (jN f bq _) bq _) bq _) aa
 .obtain⟨q0,i2,q2,z0,z1,z2⟩:=pF.of q1;go_wp2_with fail;have r3:=NM q1 (ag 0) (ag 0) (aj none 0 0);obtain⟨e0,J,D, -, -, -⟩:=pF.of r3;refine bg (v:=aH #[.agg #[ag 0,ag 0,aj none 0 0],aU 67 (aK C)]) (by simp[results,results87,go_sem,e0,J,D]) rfl ?_;obtain⟨q,x,r,J,D,e3,e4,⟨n0,e6⟩,e5⟩:=c3.out;have u:w.heap.size+1≠C:=aa;exact⟨.inr ⟨b9,C,⟨q,x,r,J,D,e3,aa,⟨n0,by rw[dh _ _ _ _ u,dh _ _ _ _ u,dh _ _ _ _ u];exact e6⟩,by rw[dh _ _ _ _ u,dh _ _ _ _ u,dh _ _ _ _ u];exact e5⟩,rfl⟩,((zI.setCell aI _).setCell aI _).setCell aI _⟩

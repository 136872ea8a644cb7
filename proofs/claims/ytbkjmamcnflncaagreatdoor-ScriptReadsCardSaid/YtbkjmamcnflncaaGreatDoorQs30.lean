import Derived.Test.YtbkjmamcnflncaaGreatDoorQs29
import Derived.Laws.CopyOwn
namespace Go.Proofs.YtbkjmamcnflncaaGreatDoor
open Go.Proofs.Tryz
open Go.RowKit
set_option maxHeartbeats 16000000
set_option maxRecDepth 20000
def uD (l:List Pm)(n:Nat)(c:List aM)(y:Nat):List aM:=c.take (n*y)++sH bA l n (y:Int)++c.drop (n*y+n)
theorem L8 (b:List Pc)(n:Nat):∀(R:List Nat) (c:List aM),I7 c b n R=R.foldl (uD (b.map gX) n) c
 |[],_=>rfl
 |y::R,c=>by rw[I7,L8 b n R,List.foldl_cons];rfl
theorem a3h {B:Nat}(w:ah)(v:au)(L:List aM)(h:w.ownsRow B 9 1 v L.length (L.map ak))(J:L.length<=1000000):
  aJ 91 #[v] w λe w'=>∃o k,e=ax (aj o L.length k)/\w'.ownsRow w.heap.size 9 1 (aj o L.length k) L.length (L.map ak)/\aD w w':=by
 have s:∀(w:ah) (a:Option Addr) (n c b d:Nat),(binOp .eql 22 (aj a n c) (aj none b d)).run prog w=.ok (.bool a.isNone) w:=λw a n c b d=>Lib.run_eql_slice_nil w _ _ a n c b d underlying22;obtain⟨t,x,f,i,l⟩:=info_parts MW;rcases h.2 with⟨rfl,y⟩|⟨g,m,z,rfl,_,_,K,M,_,_⟩
 .have A:L=[]:=lS.1 y;subst A;go_enter func91,ntmps91;go_wp2_with fail;go_ret;exact⟨none,0,rfl,gp _ _ _ _,aQ _ _⟩
 .have C:Hid (∀j u,(L.map Value.string)[j]? =some u->(w.alloc (ai #[] 9)).cell? ((⟨g,0,none⟩:Addr).add j)=some u):=λj u D=>by
   have q:=Ao h j u D;exact((bZ w _).cell (aR q)).trans q
  clear h;go_enter func91,ntmps91;go_wp2_with(at_builtin;refine wpList_append_own _ rfl _ _ 22 rfl w.heap.size 9 t (ak ⟨#[]⟩) 1 16 underlying22 x f i l rfl aC _ _ _ rfl (World.ownsRow_made w #[] 0 ay (bf _) aG) ⟨g,0,none⟩ L.length m (L.map ak) rfl aG C.out (MZ L) (by simp only[maxLen];omega) aa aG ?_;intro N O r E _;obtain⟨F,H,rfl⟩:=bg r);go_ret;refine⟨F,H,aG,by simpa using r,((aQ _ w).alloc ay _).grown E aG (λk I=>by have p:some w.heap.size=some k:=I;cases p;exact Nat.le_refl _)⟩
def spl (a:Array au)(off:Nat)(cs:List au):Array au:=(a.toList.take off++cs++a.toList.drop (off+cs.length)).toArray
theorem a7u {w:ah}{B g n b off:Nat}{c cs:List au}{a:Array au}(f:B<=g)(h:w.heap[g]? =some (ai a 9 (0,0)))(i:n<=b)(j:b<=maxLen)(hs:a.size=b*1)(e:a.toList.take (n*1)=c)(o:off+cs.length<=n):
  (w.setRow g (spl a off cs)).ownsRow B 9 1 (aj (some ⟨g,0,none⟩) n b) n (c.take off++cs++c.drop (off+cs.length)):=by
 have k:a.toList.length=b:=by grind
 have d:c.length=n:=by grind
 refine⟨by rw[dJ,dJ,iV,kU,d];omega,.inr ⟨g,b,_,rfl,f,setRow_heap w g _ _ _ _ h,i,j,?_,?_⟩⟩
 .simp[spl,k];omega
 .rw[Nat.mul_one] at e⊢;unfold spl;have m:(a.toList.take off).length=off:=by grind
  rw[<- e,List.take_take,Nat.min_eq_left aa,kV,kV,List.drop_take,List.take_append,jg (l:=a.toList.take off) aa,m,List.take_append,jg (l:=cs) aa,Nat.sub_sub]
theorem Ee (aB aS aZ aV:Addr)(l:List P5)(o:Option Addr)(A n h:Nat)(a:List aM)(B:Nat)(cv:au)(R:List Nat)(B2:Nat)(rv:au)(w:ah)(a4:1<=n)(hn:n<=40)(Aa:1<=h)(hh:h<=40)(hl:l.length<=1000)(hR:E9 w o A l)(hP:kT w l)(hE:EP aB aS aZ aV w)
  (hc:w.ownsRow B 9 1 cv (n*h) (a.map ak)) (T:a.length=n*h) (hr:w.ownsRow B2 3 1 rv R.length (bO (R.map λ(y:Nat)=>(y:Int)))) (f9:R.length<=1000) (b7:∀y∈R,y<h):
  aJ 87 #[.agg #[ag n,ag h,cv],aj o l.length A,rv] w λe W=>((nD l/\∃v,e=ax (aF #[.agg #[ag n,ag h,v],aU])/\W.ownsRow w.heap.size 9 1 v (n*h) ((R.foldl (uD (sP l) n) a).map ak))\/(¬nD l/\∃C,Jq aB aS aV l w.heap.size C W/\e=ax (aF #[.agg #[ag 0,ag 0,aj none 0 0],aP 67 (aI C)])))/\aD w W:=by
 obtain⟨X,Y,b8⟩:=bg hc;subst b8;obtain⟨UR,UT,YF⟩:=bg hr;subst YF;have b0:=bZ w (ai #[ag n,ag h,aj X (n*h) Y] 81);have r0:=eO w (ai #[ag n,ag h,aj X (n*h) Y] 81);have Z:=bZ (w.alloc (ai #[ag n,ag h,aj X (n*h) Y] 81)) (ai #[ag 0,ag 0,aj none 0 0] 81);have s:=eO (w.alloc (ai #[ag n,ag h,aj X (n*h) Y] 81)) (ai #[ag 0,ag 0,aj none 0 0] 81);rw[dK] at s;go_enter func87,ntmps87;go_upto_region 1 with fail;obtain⟨U,hU⟩:∃U,(w.alloc (ai #[ag n,ag h,aj X (n*h) Y] 81)).alloc (ai #[ag 0,ag 0,aj none 0 0] 81)=U:=⟨_,rfl⟩;have b2:=aN b0 Z;have r1:=(Z.block _ (dZ.1 r0).1).trans r0;rw[hU] at b2 r1 s⊢;clear hU b0 Z r0;have CK:=wI aB aS aZ aV l o A U hl (hR.below b2).at_ (hP.below b2 ay) (hE.below b2 ay);go_upto_region 2 with(go_at_call 74;refine CK.mono ?_;rintro e K ⟨hk,b1⟩;obtain⟨v,rfl,hv⟩:∃v,e=ax v/\((nD l/\v=aU)\/(¬nD l/\∃C,Hid (Jq aB aS aV l U.heap.size C K)/\v=aP 67 (aI C))):=(by rcases hk with⟨k1,b⟩|⟨C,k1,b⟩;exact⟨_,b,.inl ⟨k1,rfl⟩⟩;exact⟨_,b,.inr ⟨Cc (by obtain⟨q,x,r,J, -,D, -⟩:=k1;exact⟨x,by rw[J];simp,D⟩),C,k1,rfl⟩⟩));have g0:w.heap.size+2<=U.heap.size:=by have:=aY s;omega
 clear CK hk;have yU:=aN b2 b1;have p1:=(b1.block _ (dZ.1 r1).1).trans r1;have q1:=(b1.block _ (dZ.1 s).1).trans s;clear r1 s;rcases hv with⟨a5,rfl⟩|⟨b9,C,c3,rfl⟩
 .obtain⟨c0,c1,c2,f0,f1,f2⟩:=oC.of p1;have CT:=a3h K _ a (by rw[T];exact bD hc yU) (by rw[T];have:=Nat.mul_le_mul hn hh;omega);rw[T] at CT;have CT:=CT.mono (R':=λe t=>∃o k,e=ax (aj o (n*h) k)/\t.cell? ⟨w.heap.size,2,none⟩=some (aj X (n*h) Y)/\t.frozen? ⟨w.heap.size,2,none⟩=false/\Hid (t.ownsRow K.heap.size 9 1 (aj o (n*h) k) (n*h) (a.map ak)/\aD K t/\t.heap[w.heap.size]? =some (ai #[ag n,ag h,aj X (n*h) Y] 81))) λe t ⟨o,k,L,h2,h3⟩=>by
    have p2:=(h3.block _ (dZ.1 p1).1).trans p1;obtain⟨-, -,D, -, -,g2⟩:=oC.of p2;exact⟨o,k,L,D,g2,h2,h3,p2⟩
  go_upto_region 5 with(go_at_call 91;refine CT.mono ?_;rintro e t ⟨O,b,rfl,D,g2,H2⟩);obtain⟨Bz,M,p2⟩:=H2.out;have p3:(t.setCell ⟨w.heap.size,2,none⟩ (aj O (n*h) b)).heap[w.heap.size]? =some (ai #[ag n,ag h,aj O (n*h) b] 81):=by
   rw[heap_setCell_same t w.heap.size 2 _ _ _ p2];rfl
  have Q:w.heap.size<K.heap.size:=(dZ.1 p1).1;have wY:(t.setCell ⟨w.heap.size,2,none⟩ (aj O (n*h) b)).ownsRow K.heap.size 9 1 (aj O (n*h) b) (n*h) (a.map ak):=jD Bz Q _;have b3:aD w (t.setCell ⟨w.heap.size,2,none⟩ (aj O (n*h) b)):=(aN yU M).setCell ay _;have q3:(t.setCell ⟨w.heap.size,2,none⟩ (aj O (n*h) b)).heap[w.heap.size+1]? =some (ai #[ag 0,ag 0,aj none 0 0] 81):=(bY _ _ _ (w.heap.size+1) aG).trans ((M.block _ (dZ.1 q1).1).trans q1);obtain⟨V,hV⟩:∃V,t.setCell ⟨w.heap.size,2,none⟩ (aj O (n*h) b)=V:=⟨_,rfl⟩;rw[hV] at p3 wY b3 q3⊢;have a6:K.heap.size<=V.heap.size:=by rw[<- hV,mO];exact M.size
  have E:Hid (w.heap.size+1<K.heap.size):=(dZ.1 q1).1;obtain⟨B1,a7⟩:∃B1,K.heap.size=B1:=⟨_,rfl⟩;rw[a7] at E wY a6 Q;clear hV CT D g2 H2 Bz M p2 c0 c1 c2 f0 f1 f2 p1 q1 yU a7;obtain⟨g,cp,d,c6,c7,g1,c8,c9,g3,g6⟩:∃g cp d,(Value.slice O (n*h) b)=aj (some ⟨g,0,none⟩) (n*h) cp/\B1<=g/\V.heap[g]? =some (ai d 9 (0,0))/\n*h<=cp/\cp<=maxLen/\d.size=cp*1/\d.toList.take (n*h*1)=a.map ak:=by
   rcases wY.2 with⟨-,h0⟩|h0
   .have:=Nat.mul_pos a4 Aa;omega
   .exact h0
  cases c6;go_wp2_with fail
  go_loopw [25] (λi wr=>∃(k:Nat),k<=R.length/\i=ag k/\wr.heap[w.heap.size]? =some (ai #[ag n,ag h,aj (some ⟨g,0,none⟩) (n*h) b] 81)/\wr.heap[w.heap.size+1]? =some (ai #[ag 0,ag 0,aj none 0 0] 81)/\wr.ownsRow B1 9 1 (aj (some ⟨g,0,none⟩) (n*h) b) (n*h) (((R.take k).foldl (uD (sP l) n) a).map ak)/\aD w wr/\B1<=wr.heap.size) (λi _=>R.length-(intOf i).toNat)
  case atStart=>exact⟨0,bf _,rfl,p3,q3,wY,b3,a6⟩
  case round=>
   obtain⟨k,hk,rfl,hp,hq,f,hb,d1⟩:=hrel;obtain⟨c0,c1,c2,f0,f1,f2⟩:=oC.of hp;by_cases d3:k<R.length
   .have f8:(k:Int)<(R.length:Int):=aa;obtain⟨y,hy⟩:∃y,R[k]? =some y:=⟨_,eZ d3⟩;have d4:=b7 y (gN hy);obtain⟨g',d6,g7⟩:=dO (bD hr hb) k (ag (y:Int)) (by rw[bO,iN,iN,hy];rfl);obtain⟨oo,co,d7, -, -, -,a8⟩:=eT hr;cases d7;have d8:=a8 g' d6;subst d8;have RW:=abn aB aS aZ aV l o A n (y:Int) wr a4 hn aa aa hl (hR.below hb) (hP.below hb ay) (hE.below hb ay);have S:n*y+n<=n*h:=by have:=Nat.mul_le_mul_left n d4;rw[Nat.mul_succ] at this;exact this
    have g8:n*h<=1600:=Nat.mul_le_mul hn hh;obtain⟨off,m⟩:∃off,n*y=off:=⟨_,rfl⟩;have g9:(y:Int)*(n:Int)=(off:Int):=by rw[<- m];push_cast;exact Int.mul_comm _ _
    have a9:aJ 149 #[aj o l.length A,ag n,ag y] wr λe c=>∃F H,e=ax (aF #[aj (some ⟨F,0,none⟩) n H,aU])/\c.cell? ⟨w.heap.size,2,none⟩=some (aj (some ⟨g,0,none⟩) (n*h) b)/\c.cell? ⟨w.heap.size,0,none⟩=some (ag n)/\∃d,c.heap[g]? =some (ai d 9 (0,0))/\Hid (c.ownsRow wr.heap.size 9 1 (aj (some ⟨F,0,none⟩) n H) n ((sH bA (sP l) n y).map ak)/\aD wr c/\d.size=b*1/\d.toList.take (n*h*1)=((R.take k).foldl (uD (sP l) n) a).map ak):=RW.mono λe c ⟨L,h2⟩=>by
     rcases L with⟨-,v,L,h3⟩|⟨L, -⟩
     .obtain⟨F,H,rfl, -, -⟩:=h3.form aa;have d9:=(h2.block _ (dZ.1 hp).1).trans hp;obtain⟨d0, -,d2, -, -, -⟩:=oC.of d9;rcases(bD f h2).2 with⟨h5, -⟩|⟨g5,c5,e7,h5, -,h6, -, -,h7,h8⟩
      .cases h5
      .cases h5;exact⟨F,H,L,d2,d0,e7,h6,h3,h2,h7,h8⟩
     .exact absurd a5 L
    have HY:=aA hy;have HH:=aA m;have h9:off+n<=n*h:=by rw[<- m];exact S
    clear RW hy m S hr a8;have b5:=wG bA (sP l) n (y:Int);clear f;have i0:(off:Int)<=((n*h:Nat):Int):=aa;have i1:(off:Int)<(b:Int):=aa;obtain⟨z,I⟩:∃z,(sH bA (sP l) n (y:Int)).map Value.string=z:=⟨_,rfl⟩;have p:z.length=n:=by rw[<- I,dF,b5]
    have e8:∀(c:ah) (F H:Nat) (N:Array au),c.heap[g]? =some (ai N 9 (0,0))->N.size=b*1->c.ownsRow wr.heap.size 9 1 (aj (some ⟨F,0,none⟩) n H) n z->∀ty,(Builtin.copy_ #[22,22] ty #[aj (some ⟨g,off,none⟩) (n*h-off) (b-off),aj (some ⟨F,0,none⟩) n H]).run prog c=.ok (ag n) (c.setRow g (spl N off z)):=λc F H N L h2 h3 ty=>by
     have h4:=run_copy_row (P:=prog) c 22 22 ty 9 g off (n*h-off) (b-off) ⟨F,0,none⟩ n H N 9 z underlying22 az L (by rw[p];exact(Nat.min_eq_left aa).symm) (Ao h3) aa (by rw[<- I];exact MZ _);rw[show goInt (z.length:Int)=ag (n:Int) from by rw[p];rfl] at h4;exact h4
    rw[I] at a9;have e9:Hid ((sH bA (sP l) n (y:Int)).map Value.string=z/\z.length=n):=⟨I,p⟩;clear I p b5;go_wp2_with(go_at_call 149;refine a9.mono ?_;rintro e c ⟨F,H,rfl,d2,d0,N,b6,H4⟩;have CP:=e8 c F H N b6 H4.out.2.2.1 H4.out.1)
    go_roundw
    case rel=>
     obtain⟨-,b4,f3,f4⟩:=H4.out;obtain⟨f5,f6⟩:=e9.out;have E:=E.out;have f7:=aN hb b4;have J:∀j,j≠g->(c.setRow g (spl N off z)).heap[j]? =c.heap[j]? :=λj hj=>setRow_other c g j _ hj;refine⟨k+1,aa,by go_num,?_,?_,?_,below_setRow f7 aa _,?_⟩
     .rw[J _ aa];exact(b4.block _ (dZ.1 hp).1).trans hp
     .rw[J _ aa];exact(b4.block _ (dZ.1 hq).1).trans hq
     .have h5:=a7u (B:=B1) (off:=off) (cs:=z) c7 b6 c8 c9 f3 f4 aa;rw[dS,HY.out,List.foldl_append];show World.ownsRow _ _ _ _ _ _ ((uD (sP l) n ((R.take k).foldl (uD (sP l) n) a) y).map Value.string);unfold uD;rw[iG,iG,List.map_take,List.map_drop,HH.out,f5];rw[f6] at h5;exact h5
     .have h6:(c.setRow g (spl N off z)).heap.size=c.heap.size:=by simp[World.setRow]
      rw[h6];exact bu d1 b4.size
    case measure=>simp[intOf];omega
   .obtain rfl:k=R.length:=aa;rw[gq] at f;obtain⟨q0,q1,q2,z0,z1,z2⟩:=oC.of hq;go_wp2_with fail;have r4:=MX hq (ag n) (ag h) (aj (some ⟨g,0,none⟩) (n*h) b);obtain⟨e0,J,D, -, -, -⟩:=oC.of r4;refine bodyPost_ret (v:=aF #[.agg #[ag n,ag h,aj (some ⟨g,0,none⟩) (n*h) b],aU]) (by simp[results,results87,go_sem,e0,J,D]) rfl ?_;have E:=E.out;refine⟨.inl ⟨a5,_,rfl,?_⟩,((hb.setCell aG _).setCell aG _).setCell aG _⟩;exact fO (jD (jD (jD f aX _) aX _) aX _) aa
 .obtain⟨q0,i2,q2,z0,z1,z2⟩:=oC.of q1;go_wp2_with fail;have r3:=MX q1 (ag 0) (ag 0) (aj none 0 0);obtain⟨e0,J,D, -, -, -⟩:=oC.of r3;refine bodyPost_ret (v:=aF #[.agg #[ag 0,ag 0,aj none 0 0],aP 67 (aI C)]) (by simp[results,results87,go_sem,e0,J,D]) rfl ?_;obtain⟨q,x,r,J,D,e3,e4,⟨n0,e6⟩,e5⟩:=c3.out;have u:w.heap.size+1≠C:=aa;exact⟨.inr ⟨b9,C,⟨q,x,r,J,D,e3,aa,⟨n0,by rw[bN _ _ _ _ u,bN _ _ _ _ u,bN _ _ _ _ u];exact e6⟩,by rw[bN _ _ _ _ u,bN _ _ _ _ u,bN _ _ _ _ u];exact e5⟩,rfl⟩,((yU.setCell aG _).setCell aG _).setCell aG _⟩

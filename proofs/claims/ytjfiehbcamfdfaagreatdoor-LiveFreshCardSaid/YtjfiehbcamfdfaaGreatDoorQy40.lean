/-
  Parts of the proof.
-/
import Derived.Test.YtjfiehbcamfdfaaGreatDoorQy39
namespace Go.Proofs.YtjfiehbcamfdfaaGreatDoor
open Go.Proofs.Tryz
section
open Go.RowKit
set_option maxHeartbeats 4000000
set_option maxRecDepth 20000
def KN (w:World)(o:Option Addr)(l:List ByteArray):Prop:=∀i s,l[i]? =some s->∃b off,o=some ⟨b,off,none⟩/\w.cell? (ag b (off+i))=some (.string s)
theorem KN.below {w w':World}{o:Option Addr}{l:List ByteArray}(h:KN w o l)(hb:Below w.heap.size w w'):KN w' o l:=fun i s hs=>by
 obtain⟨b,off,h1,h2⟩:=h i s hs;exact⟨b,off,h1,(hb.cell (ay h2)).trans h2⟩
def a2a (a b:List ByteArray)(e:Ending):Prop:=(a=b/\e=.returned (.bool true))\/(a≠b/\e=.returned (.bool false))
theorem a1I (a b:List ByteArray)(oa ob:Option Addr)(ca cb:Nat)(w:World)(hla:a.length<=10000)(ha:KN w oa a)(hb:KN w ob b):
  ak 14 #[.slice oa a.length ca,.slice ob b.length cb] w fun e W=>a2a a b e/\Below w.heap.size w W:=by
 by_cases hne:a.length=b.length
 ·have hne':((a.length:Int)==(b.length:Int))=true:=by rw[hne];simp
  have hnb:((a.length:Int) !=(b.length:Int))=false:=by rw[hne];simp
  have Rv:Hid (a.length=b.length):=hne;clear hne;go_enter func14,ntmps14;go_wp2_with fail
  go_loopw [5] (fun i wr=>∃k:Nat,k<=a.length/\i=aa k/\a.take k=b.take k/\Below w.heap.size w wr) (fun i _=>a.length-(intOf i).toNat)
  case atStart=>exact⟨0,Nat.zero_le _,rfl,rfl,Below.refl _ _⟩
  case round=>
   obtain⟨k,hk,rfl,hrt,hB⟩:=hrel;by_cases hlt:k<a.length
   ·have hlt':(k:Int)<(a.length:Int):=by omega
    have a8j:(k:Int)<(b.length:Int):=by have:=Rv.out;omega
    obtain⟨x,hx⟩:∃x,a[k]? =some x:=⟨_,List.getElem?_eq_getElem hlt⟩;obtain⟨y,hy⟩:∃y,b[k]? =some y:=⟨_,List.getElem?_eq_getElem (by have:=Rv.out;omega)⟩;obtain⟨b1,f1,rfl,c1⟩:=ha.below hB k x hx;obtain⟨b2,f2,rfl,c2⟩:=hb.below hB k y hy;have HX:Hid (a[k]? =some x/\b[k]? =some y):=⟨hx,hy⟩;clear hx hy;have d1:wr.drew.cell? (ag b1 (f1+k))=some (.string x):=c1;have d2:wr.drew.cell? (ag b2 (f2+k))=some (.string y):=c2;by_cases hxy:x=y
    ·subst hxy;go_upto_region 6 with fail;go_region
     all_goals
      go_wp2_with fail
      go_roundw
      case rel=>exact⟨k+1,by omega,by go_num,by rw[List.take_add_one,List.take_add_one,hrt,HX.out.1,HX.out.2],hB.drew⟩
      case measure=>simp[intOf];omega
    ·have hxl:(x.toList==y.toList)=false:=beq_eq_false_iff_ne.2 (fun h=>hxy (ba_eq h));have hno:a≠b:=fun h=>hxy (by
      have:=HX.out.1;rw[h,HX.out.2] at this;cases this;rfl)
     go_upto_region 6 with fail;go_region
     all_goals
      go_wp2_with fail;go_ret;exact⟨.inr ⟨hno,rfl⟩,hB.drew⟩
   ·obtain rfl:k=a.length:=by omega
    have hab:a=b:=by
     rw[List.take_length] at hrt;rw[Rv.out,List.take_length] at hrt;exact hrt
    go_wp2_with fail;go_ret;exact⟨.inl ⟨hab,rfl⟩,hB⟩
 ·have hno:a≠b:=fun h=>hne (by rw[h]);have hne':((a.length:Int)==(b.length:Int))=false:=by rw[beq_eq_false_iff_ne];omega
  have hnb:((a.length:Int) !=(b.length:Int))=true:=by rw[bne,hne'];rfl
  clear hne;go_enter func14,ntmps14;go_wp2_with fail;go_ret;exact⟨.inr ⟨hno,rfl⟩,Below.refl _ _⟩
end
section
open Go.RowKit
set_option maxHeartbeats 4000000
set_option maxRecDepth 20000
theorem NM (a b:List ByteArray)(oa ob:Option Addr)(ca cb:Nat)(w:World)(hla:a.length<=10000)(ha:KN w oa a)(hb:KN w ob b):
  ak 33 #[.slice oa a.length ca,.slice ob b.length cb] w fun e W=>a2a a b e/\Below w.heap.size w W:=by
 by_cases hne:a.length=b.length
 ·have hne':((a.length:Int)==(b.length:Int))=true:=by rw[hne];simp
  have hnb:((a.length:Int) !=(b.length:Int))=false:=by rw[hne];simp
  have Rv:Hid (a.length=b.length):=hne;clear hne;go_enter func33,ntmps33;go_wp2_with fail
  go_loopw [13] (fun i wr=>∃k:Nat,k<=a.length/\i=aa k/\a.take k=b.take k/\Below w.heap.size w wr) (fun i _=>a.length-(intOf i).toNat)
  case atStart=>exact⟨0,Nat.zero_le _,rfl,rfl,Below.refl _ _⟩
  case round=>
   obtain⟨k,hk,rfl,hrt,hB⟩:=hrel;by_cases hlt:k<a.length
   ·have hlt':(k:Int)<(a.length:Int):=by omega
    have a8j:(k:Int)<(b.length:Int):=by have:=Rv.out;omega
    obtain⟨x,hx⟩:∃x,a[k]? =some x:=⟨_,List.getElem?_eq_getElem hlt⟩;obtain⟨y,hy⟩:∃y,b[k]? =some y:=⟨_,List.getElem?_eq_getElem (by have:=Rv.out;omega)⟩;obtain⟨b1,f1,rfl,c1⟩:=ha.below hB k x hx;obtain⟨b2,f2,rfl,c2⟩:=hb.below hB k y hy;have HX:Hid (a[k]? =some x/\b[k]? =some y):=⟨hx,hy⟩;clear hx hy;have d1:wr.drew.cell? (ag b1 (f1+k))=some (.string x):=c1;have d2:wr.drew.cell? (ag b2 (f2+k))=some (.string y):=c2;by_cases hxy:x=y
    ·subst hxy;go_upto_region 6 with fail;go_region
     all_goals
      go_wp2_with fail
      go_roundw
      case rel=>exact⟨k+1,by omega,by go_num,by rw[List.take_add_one,List.take_add_one,hrt,HX.out.1,HX.out.2],hB.drew⟩
      case measure=>simp[intOf];omega
    ·have hxl:(x.toList==y.toList)=false:=beq_eq_false_iff_ne.2 (fun h=>hxy (ba_eq h));have hno:a≠b:=fun h=>hxy (by
      have:=HX.out.1;rw[h,HX.out.2] at this;cases this;rfl)
     go_upto_region 6 with fail;go_region
     all_goals
      go_wp2_with fail;go_ret;exact⟨.inr ⟨hno,rfl⟩,hB.drew⟩
   ·obtain rfl:k=a.length:=by omega
    have hab:a=b:=by
     rw[List.take_length] at hrt;rw[Rv.out,List.take_length] at hrt;exact hrt
    go_wp2_with fail;go_ret;exact⟨.inl ⟨hab,rfl⟩,hB⟩
 ·have hno:a≠b:=fun h=>hne (by rw[h]);have hne':((a.length:Int)==(b.length:Int))=false:=by rw[beq_eq_false_iff_ne];omega
  have hnb:((a.length:Int) !=(b.length:Int))=true:=by rw[bne,hne'];rfl
  clear hne;go_enter func33,ntmps33;go_wp2_with fail;go_ret;exact⟨.inr ⟨hno,rfl⟩,Below.refl _ _⟩
theorem XW (a b:List ByteArray)(oa ob:Option Addr)(ca cb:Nat)(n h:Int)(w:World)(hla:a.length<=10000)(ha:KN w oa a)(hb:KN w ob b):
  ak 13 #[.agg #[aa n,aa h,.slice oa a.length ca],.agg #[aa n,aa h,.slice ob b.length cb]] w fun e W=>a2a a b e/\Below w.heap.size w W:=by
 have r0:=World.alloc_heap_new w (.cells #[aa n,aa h,.slice oa a.length ca] 40);have b0:=aL w (.cells #[aa n,aa h,.slice oa a.length ca] 40);have b1:=aL (w.alloc (.cells #[aa n,aa h,.slice oa a.length ca] 40)) (.cells #[aa n,aa h,.slice ob b.length cb] 40);have bb:=au b0 b1;have EQ:=NM a b oa ob ca cb ((w.alloc (.cells #[aa n,aa h,.slice oa a.length ca] 40)).alloc (.cells #[aa n,aa h,.slice ob b.length cb] 40)) hla (ha.below bb) (hb.below bb);clear r0 b0 b1;go_enter func13,ntmps13;go_wp2_with fail;refine EQ.mono ?_;rintro e w1 ⟨hr,b2⟩;rcases hr with⟨hab,rfl⟩|⟨hab,rfl⟩
 ·go_wp2_with fail;go_ret;exact⟨.inl ⟨hab,rfl⟩,au bb b2⟩
 ·go_wp2_with fail;go_ret;exact⟨.inr ⟨hab,rfl⟩,au bb b2⟩
end
section
open Go.RowKit
set_option maxHeartbeats 4000000
section
variable {W:World}{LB B DB:Nat}{M:Dm}{nx c:Nat}{r:Int->Nat}{rl:List Rl}{l:List Pc}{w h:Nat}
theorem rX.a4X (hl:rX W LB B DB M nx c r rl l w h):vW M rl/\di M rl=.ok l/\dP M:=by
 obtain⟨tg,MB,p,rv,qs,pv,cv,h1,rfl⟩:=hl;refine⟨⟨_,h1.pm,fun x hx=>?_⟩,h1.pm,h1.ok⟩;obtain⟨y,hy,rfl⟩:=List.mem_map.1 hx;exact h1.pk y hy
theorem Y4 {V w1:World}{n:Nd}{s:ByteArray}{o1 o2:Option Addr}{n1 k1 n2 k2:Nat}(hb:Below (V.alloc oZ).heap.size (V.alloc oZ) w1)(hq:mY (fun b=>(V.alloc oZ).heap.size<=b) w1 (.string s) (.slice o1 n1 k1) (.slice o2 n2 k2) n):
  jY w1 V.heap.size (.string ⟨#[]⟩) (.slice none 0 0) (.slice none 0 0)/\(((w1.setCell ⟨V.heap.size,0,none⟩ (.string s)).setCell ⟨V.heap.size,1,none⟩ (.slice o1 n1 k1)).setCell ⟨V.heap.size,2,none⟩ (.slice o2 n2 k2)).heap[V.heap.size]? =some (.cells #[.string s,.slice o1 n1 k1,.slice o2 n2 k2] 25)/\
   mY (fun b=>V.heap.size<=b) (((w1.setCell ⟨V.heap.size,0,none⟩ (.string s)).setCell ⟨V.heap.size,1,none⟩ (.slice o1 n1 k1)).setCell ⟨V.heap.size,2,none⟩ (.slice o2 n2 k2)) (.string s) (.slice o1 n1 k1) (.slice o2 n2 k2) n/\Below V.heap.size V (((w1.setCell ⟨V.heap.size,0,none⟩ (.string s)).setCell ⟨V.heap.size,1,none⟩ (.slice o1 n1 k1)).setCell ⟨V.heap.size,2,none⟩ (.slice o2 n2 k2)):=by
 have hs:(V.alloc oZ).heap.size=V.heap.size+1:=World.size_alloc _ _;have k0:=(hb.block V.heap.size (by omega)).trans (dh V #[.string ⟨#[]⟩,.slice none 0 0,.slice none 0 0] 25);refine⟨jY.of k0,Gb k0 _ _ _,mY.turn (fun b hq _=>?_) n hq,(((az (aW V oZ) hb).setCell (by simp) _).setCell (by simp) _).setCell (by simp) _⟩;have hq:(V.alloc oZ).heap.size<=b:=hq;have hne:b≠V.heap.size:=by omega
 exact⟨by omega,(Below.heap_setCell _ _ _ b hne).trans ((Below.heap_setCell _ _ _ b hne).trans (Below.heap_setCell _ _ _ b hne))⟩
theorem rX.node (hl:rX W LB B DB M nx c r rl l w h):ak 15 #[aj LB] W fun e w'=>NdR W.heap.size (yZ M 11 0) e w'/\Below W.heap.size W w':=by
 obtain⟨tg,MB,p,rv,qs,pv,cv,h1, -⟩:=hl;have l0:=bO oZ (aA h1.lb 0 _ rfl);obtain⟨e0,he0, -⟩:=h1.ds.d.root;have ND:∀V,Below W.heap.size W V->ak 66 #[aj DB,aa 0] V fun e w'=>NdR V.heap.size (yZ M 11 0) e w'/\Below V.heap.size V w':=fun V hV=>Cn h1.ds h1.ok 11 0 V hV (by decide) (h1.ds.d.dp 11 0 e0 he0 (by omega));obtain⟨X,hX⟩:∃X,yZ M 11 0=X:=⟨_,rfl⟩;rw[hX] at ND⊢;clear hX h1 he0;have ND':∀V,Below W.heap.size W V->ak 34 #[aj DB] V fun e w'=>NdR V.heap.size X e w'/\Below V.heap.size V w':=fun V hV=>by
  have N1:=ND (V.alloc oZ) (az hV (aW _ _));clear ND hV l0;go_enter func34,ntmps34;go_wp2_with(go_at_call 66;refine N1.mono ?_;rintro e w1 ⟨⟨s,o1,n1,k1,o2,n2,k2,rfl,hq⟩,hb⟩;obtain⟨⟨c0,c1,c2,f0,f1,f2⟩,r4,hq',hb'⟩:=Y4 hb hq);have e0:=aA r4 0 _ rfl;have e1:=aA r4 1 _ rfl;have e2:=aA r4 2 _ rfl;refine bodyPost_ret (v:=.agg #[.string s,.slice o1 n1 k1,.slice o2 n2 k2]) (by simp[results,results34,go_sem,e0,e1,e2]) rfl ?_;exact⟨⟨s,o1,n1,k1,o2,n2,k2,rfl,hq'⟩,hb'⟩
 have N1:=ND' (W.alloc oZ) (aW _ _);clear ND ND';go_enter func15,ntmps15;go_wp2_with(go_at_call 34;refine N1.mono ?_;rintro e w1 ⟨⟨s,o1,n1,k1,o2,n2,k2,rfl,hq⟩,hb⟩;obtain⟨⟨c0,c1,c2,f0,f1,f2⟩,r4,hq',hb'⟩:=Y4 hb hq);have e0:=aA r4 0 _ rfl;have e1:=aA r4 1 _ rfl;have e2:=aA r4 2 _ rfl;refine bodyPost_ret (v:=.agg #[.string s,.slice o1 n1 k1,.slice o2 n2 k2]) (by simp[results,results15,go_sem,e0,e1,e2]) rfl ?_;exact⟨⟨s,o1,n1,k1,o2,n2,k2,rfl,hq'⟩,hb'⟩
theorem rX.lt (hl:rX W LB B DB M nx c r rl l w h):LB<W.heap.size/\DB<W.heap.size:=by
 obtain⟨tg,MB,p,rv,qs,pv,cv,h1, -⟩:=hl;exact⟨aD h1.lb,aD h1.ds.w.doc⟩
end
end
section
open Go.RowKit
theorem a4P {M:Dm}:∀(f g:Nat) (i d d':Int),Dp M f i->f<=g->(pre M g i d).map Prod.fst=(pre M f i d').map Prod.fst
 |0,_,_,_,_,h,_=>h.elim
 |f+1,0,_,_,_,_,hg=>absurd hg (by omega)
 |f+1,g+1,i,d,d',h,hg=>by
  unfold pre;cases he:M i with
  |none=>rfl
  |some e=>
   simp only[List.map_cons,List.map_flatMap];exact congrArg _ (Ki _ fun k hk=>a4P f g k _ _ (h e he k hk) (by omega))
theorem a7v {M:Dm}{r:Int->Nat}{c:Nat}{l:List Pc}(hd:Wd M r)(hn:Cd M c)(hc:c<=100)(hok:dP M)(hp:di M []=.ok l):(fT (yZ M 11 0) 1 0).1=0/\dQ (yZ M 11 0)<=100/\∃l',di (dZ (yZ M 11 0)) []=.ok l'/\l'.map dY=l.map dY:=by
 obtain⟨e0,he0, -⟩:=hd.root;have hdp:=hd.dp 11 0 e0 he0 (by have:=hd.r0;omega);have hcd:∀d,(pre M 11 0 d).length=c:=fun d=>by rw[<- List.length_map (f:=Prod.fst)];exact hd.count hn hdp
 have hck:=a8v hd hok 11 0 e0 0 he0 hdp (by unfold szM;rw[hcd];omega);rw[hd.r0] at hck;have h0:(fT (yZ M 11 0) 1 0).1=0:=by rw[hck]
 have hsz:dQ (yZ M 11 0)=c:=by
  have h1:=Wu (yZ M 11 0) 1 0 h0;rw[hck] at h1;have h1:0+szM M 11 0=0+dQ (yZ M 11 0):=h1;unfold szM at h1;rw[hcd] at h1;omega
 have hw':=Wd.new (yZ M 11 0) (Wo _ 1 0 h0);have hin:InN (dZ (yZ M 11 0)) 0 (-1) (yZ M 11 0):=InN.ext _ 0 (-1) _;obtain⟨e1,he1, -⟩:=hw'.root;have a6M:=hw'.dp 11 0 e1 he1 (by have:=hw'.r0;omega);have hall:allM (dZ (yZ M 11 0))=nums 0 (allM M).length:=by
  have h1:=hin.pre (d:=1) (f:=dQ (yZ M 11 0)+11) (by omega);have h2:=a4P 11 (dQ (yZ M 11 0)+11) 0 1 1 a6M (by omega);have h3:(allM M).length=dQ (yZ M 11 0):=by unfold allM jm;rw[List.length_map,hcd,hsz]
  rw[h3];exact h2.symm.trans h1
 have hv:=(a9L hd hin hall).pieces;rw[hp] at hv;refine⟨h0,by omega,?_⟩;cases hq:di (dZ (yZ M 11 0)) [] with
 |error e=>rw[hq] at hv;exact hv.elim
 |ok l'=>rw[hq] at hv;exact⟨l',rfl,a3u hv.symm⟩
def LvF (W:World)(LB B DB K:Nat)(l:List Pc)(w h:Nat):Prop:=∃M nx c r,nx<=K/\rX W LB B DB M nx c r [] l w h
section
variable {E:Nat->Addr}{W:World}{LB B DB K:Nat}{l:List Pc}{w h:Nat}
theorem LvF.below {w':World}(hl:LvF W LB B DB K l w h)(hb:Below W.heap.size W w'):LvF w' LB B DB K l w h:=by
 obtain⟨M,nx,c,r,h1,h2⟩:=hl;exact⟨M,nx,c,r,h1,h2.below hb⟩
theorem LvF.more {K':Nat}(hl:LvF W LB B DB K l w h)(hk:K<=K'):LvF W LB B DB K' l w h:=by
 obtain⟨M,nx,c,r,h1,h2⟩:=hl;exact⟨M,nx,c,r,Nat.le_trans h1 hk,h2⟩
theorem LvF.base (hl:LvF W LB B DB K l w h):B<=LB/\B<=DB/\B<=W.heap.size/\LB<W.heap.size/\DB<W.heap.size:=by
 obtain⟨M,nx,c,r, -,h2⟩:=hl;exact⟨h2.base.1,h2.base.2.1,h2.base.2.2,h2.lt.1,h2.lt.2⟩
theorem LvF.Xe (hl:LvF W LB B DB K l 9 8):ak 10 #[aj LB] W fun e w'=>∃g cp,e=.returned (.agg #[aa 9,aa 8,.slice (some ⟨g,0,none⟩) 72 cp])/\w'.ownsRow W.heap.size 9 1 (.slice (some ⟨g,0,none⟩) 72 cp) 72 ((iZ aC (l.map dY) 9 8).map .string)/\Below W.heap.size W w':=by
 obtain⟨M,nx,c,r, -,h2⟩:=hl;exact h2.Xe (by decide) (by decide) (by decide) (by decide)
theorem agb (hE:LE E W)(hl:LvF W LB B DB K l w h)(hw1:1<=w)(hw:w<=40)(AZ:1<=h)(hh:h<=40)(hK:K<1000000)(x:Ed)(hx:x.kd≠uC)(hn:dH x.n)(hm:dH x.m)(hnl:x.nm.length<=1000000)(hvl:x.vl.length<=1000000):
  ak 11 #[aj LB,.agg (zg x)] W fun e w'=>((∃t u,e=.returned (.tuple #[.slice none 0 0,.iface t u]))/\Below W.heap.size W w'/\LvF w' LB B DB K l w h)\/
   ∃l2 o cp,e=.returned (.tuple #[.slice o (gL l l2 h).length cp,.nilIface])/\w'.ownsRow W.heap.size 3 1 (.slice o (gL l l2 h).length cp) (gL l l2 h).length (bY ((gL l l2 h).map fun(y:Nat)=>(y:Int)))/\K2 LB DB W w'/\LvF w' LB B DB (K+1) l2 w h:=by
 obtain⟨M,nx,c,r,hk,tg,MB,p,rv,qs,pv,cv,hl,rfl⟩:=hl;obtain⟨GK,GL,Wj⟩:=aI hl.row;subst Wj;refine(a4x hE hl hw1 hw AZ hh x True False (fun M2 lN c2 r2=>lN<=nx+1) [] (fun y hy=>(by cases hy)) (fun N V qi qo vX p1 h1 h2 h3=>(a5K (hE.below h2) h3 hl.ok x hx hn hm hnl hvl (by omega)).mono fun e w' ⟨u,k1,k2,k3⟩=>⟨k3,?_⟩) (fun V hV=>(Nw x hx _ _ _ V).mono fun e w' ⟨h1,h2⟩=>⟨h2,.inr ⟨_,_,_,h1,aK hl.row (hV.trans (h2.mono hV.size))⟩⟩)).mono fun e w' hr=>?_
 ·rcases k2 with⟨t,y,rfl⟩|⟨rfl,k4⟩
  ·exact .inl ⟨trivial,t,y,k1⟩
  ·exact .inr ⟨k1,k4⟩
 rcases hr with⟨h1,h2,h3, -⟩|⟨vz,MB2,p2,M2,lN,c2,r2,rv2,uG,pv2,cv2,o,n,cp,h1,h2,h3,h4,h5,h6⟩
 ·exact .inl ⟨h1,h2,M,nx,c,r,hk,tg,MB,p,_,qs,pv,cv,h3,rfl⟩
 ·have h5':w'.ownsRow W.heap.size 3 1 (.slice o n cp) (gL (qs.map bZ.pc) (uG.map bZ.pc) h).length (bY ((gL (qs.map bZ.pc) (uG.map bZ.pc) h).map fun(y:Nat)=>(y:Int))):=by simpa using h5
  obtain⟨o',cp',hv⟩:=aI h5';cases hv;exact .inr ⟨uG.map bZ.pc,_,_,h4,h5',h3,M2,lN,c2,r2,by omega,vz,MB2,p2,rv2,uG,pv2,cv2,h6,rfl⟩
theorem LvF.anew (hE:LE E W)(hl:LvF W LB B DB K l 9 8):ak 15 #[aj LB] W fun e w'=>∃s p1 n1 k1 p2 n2 k2,e=.returned (.agg #[.string s,.slice p1 n1 k1,.slice p2 n2 k2])/\Below W.heap.size W w'/\
  ak 9 #[.agg #[.string s,.slice p1 n1 k1,.slice p2 n2 k2],.string ⟨#[]⟩,aa 9,aa 8] w' fun e w2=>∃LB2 DB2 l2,e=.returned (.tuple #[aj LB2,.nilIface])/\Below W.heap.size W w2/\LvF w2 LB2 w'.heap.size DB2 100 l2 9 8/\l2.map dY=l.map dY:=by
 obtain⟨M,nx,c,r,hk,h2⟩:=hl;obtain⟨h3,h4,h5⟩:=h2.a4X;obtain⟨h6,h7,l',h8,h9⟩:(fT (yZ M 11 0) 1 0).1=0/\dQ (yZ M 11 0)<=100/\∃l',di (dZ (yZ M 11 0)) []=.ok l'/\l'.map dY=l.map dY:=by
  obtain⟨tg,MB,p,rv,qs,pv,cv,h1, -⟩:=h2;exact a7v h1.ds.d h1.ds.n h1.ds.le h5 h4
 have hpk:∀x∈l',iJ (dY x):=fun x hx=>by
  obtain⟨l1,k1,k2⟩:=h3;rw[h4] at k1;cases k1;have:=List.mem_map_of_mem (f:=dY) hx;rw[h9] at this;obtain⟨y,hy,he⟩:=List.mem_map.1 this;rw[<- he];exact k2 y hy
 refine h2.node.mono fun e w' ⟨⟨s,p1,n1,k1,p2,n2,k2,h10,h11⟩,hb⟩=>⟨s,p1,n1,k1,p2,n2,k2,h10,hb,?_⟩;refine(a1Z E (yZ M 11 0) _ _ _ w' 9 8 (hE.below hb) (mY.nd _ h11) (by omega) (by decide) (by decide) (by decide) (by decide)).mono fun e w2 ⟨b2,hr⟩=>?_;rcases hr with⟨hr, -⟩|⟨LB2,DB2,l2, -,hr,he,hv⟩
 ·exact absurd ⟨h6,l',h8,hpk⟩ hr
 ·rw[h8] at hr;cases hr;exact⟨LB2,DB2,l',he,az hb b2,⟨_,_,_,_,h7,hv⟩,h9⟩
end
end
end Go.Proofs.YtjfiehbcamfdfaaGreatDoor

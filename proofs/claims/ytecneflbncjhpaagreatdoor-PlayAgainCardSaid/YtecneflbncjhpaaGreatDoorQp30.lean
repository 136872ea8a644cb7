/- Parts of the proof. -/
import Derived.Test.YtecneflbncjhpaaGreatDoorQp29
import Derived.Laws.CopyOwn
namespace Go.Proofs.YtecneflbncjhpaaGreatDoor
open Go.Proofs.Tryz
open Go.RowKit
set_option maxHeartbeats 16000000
set_option maxRecDepth 20000
def qh (l:List Pm)(n:Nat)(c:List aC)(y:Nat):List aC:=c.take (n*y)++nP aN l n (y:Int)++c.drop (n*y+n)
theorem Gm (b:List Pc)(n:Nat):∀(R:List Nat) (c:List aC),Dk c b n R=R.foldl (qh (b.map fK) n) c
 |[],_=>rfl
 |y::R,c=>by rw[Dk,Gm b n R,List.foldl_cons];rfl
theorem YO {B:Nat}(w:ag)(v:ah)(L:List aC)(h:w.ownsRow B 9 1 v L.length (L.map .string))(hl:L.length<=1000000):
  au 30 #[v] w fun e w'=>∃o k,e=.returned (.slice o L.length k)/\w'.ownsRow w.heap.size 9 1 (.slice o L.length k) L.length (L.map .string)/\Below w.heap.size w w':=by
 have q22:∀(w:ag) (a:Option Addr) (n c n' c':Nat),(binOp .eql 45 (.slice a n c) (.slice none n' c')).run prog w=.ok (.bool a.isNone) w:=fun w a n c n' c'=>Lib.run_eql_slice_nil w _ _ a n c n' c' underlying45;obtain⟨i0,hi,hz0,hz1,hz2⟩:=info_parts GI;rcases h.2 with⟨rfl,hn⟩|⟨g,cap,cur,rfl,_,_,h1,h2,_,_⟩
 ·have hz:L=[]:=iC.1 hn;subst hz;go_enter func30,ntmps30;go_wp2_with fail;go_ret;exact⟨none,0,rfl,eH _ _ _ _,aG _ _⟩
 ·have HN:Hid (∀j u,(L.map Value.string)[j]? =some u->(w.alloc (.cells #[] 9)).cell? ((⟨g,0,none⟩:Addr).add j)=some u):=fun j u hj=>by
   have h3:=Bi h j u hj;exact((bg w _).cell (aF h3)).trans h3
  clear h;go_enter func30,ntmps30;go_wp2_with(at_builtin;refine wpList_append_own _ rfl _ _ 45 rfl w.heap.size 9 i0 (.string ⟨#[]⟩) 1 16 underlying45 hi hz0 hz1 hz2 rfl (by decide) _ _ _ rfl (World.ownsRow_made w #[] 0 ai (aP _) (by simp)) ⟨g,0,none⟩ L.length cap (L.map .string) rfl (by simp) HN.out (GK L) (by simp only[maxLen];omega) (by omega) (by simp) ?_;intro v7 w7 kN jS _;obtain⟨o7,tK,rfl⟩:=aM kN);go_ret;refine⟨o7,tK,by simp,by simpa using kN,((aG _ w).alloc ai _).grown jS (by simp) (fun k hk=>by have hk':some w.heap.size=some k:=hk;cases hk';exact Nat.le_refl _)⟩
def spl (cur:Array ah)(off:Nat)(cs:List ah):Array ah:=(cur.toList.take off++cs++cur.toList.drop (off+cs.length)).toArray
theorem a2p {w:ag}{B g n cap off:Nat}{xs cs:List ah}{cur:Array ah}(hB:B<=g)(hg:w.heap[g]? =some (.cells cur 9 (0,0)))(hn:n<=cap)(hm:cap<=maxLen)(hs:cur.size=cap*1)(hx:cur.toList.take (n*1)=xs)(hf:off+cs.length<=n):
  (w.setRow g (spl cur off cs)).ownsRow B 9 1 (.slice (some ⟨g,0,none⟩) n cap) n (xs.take off++cs++xs.drop (off+cs.length)):=by
 have hl:cur.toList.length=cap:=by simpa using hs
 have hxl:xs.length=n:=by rw[<- hx,List.length_take,hl];omega
 refine⟨by rw[List.length_append,List.length_append,List.length_take,List.length_drop,hxl];omega,.inr ⟨g,cap,_,rfl,hB,setRow_heap w g _ _ _ _ hg,hn,hm,?_,?_⟩⟩
 ·simp[spl,hl];omega
 ·rw[Nat.mul_one] at hx⊢;unfold spl;have h1:(cur.toList.take off).length=off:=by rw[List.length_take];omega
  rw[<- hx,List.take_take,Nat.min_eq_left (by omega),List.append_assoc,List.append_assoc,List.drop_take,List.take_append,List.take_of_length_le (l:=cur.toList.take off) (by omega),h1,List.take_append,List.take_of_length_le (l:=cs) (by omega),Nat.sub_sub]
theorem zW (aB aS aZ aV:Addr)(l:List P5)(o:Option Addr)(cap n h:Nat)(cells:List aC)(B:Nat)(cv:ah)(R:List Nat)(B2:Nat)(rv:ah)(w:ag)(hn1:1<=n)(hn:n<=40)(ug:1<=h)(hh:h<=40)(hl:l.length<=1000)(hR:zO w o cap l)(hP:j5 w l)(hE:EP aB aS aZ aV w)
  (hc:w.ownsRow B 9 1 cv (n*h) (cells.map .string)) (hcl:cells.length=n*h) (hr:w.ownsRow B2 3 1 rv R.length (aU (R.map fun(y:Nat)=>(y:Int)))) (hrl:R.length<=1000) (hrh:∀y∈R,y<h):
  au 107 #[.agg #[aa n,aa h,cv],.slice o l.length cap,rv] w fun e W=>((jT l/\∃v,e=.returned (.tuple #[.agg #[aa n,aa h,v],.nilIface])/\W.ownsRow w.heap.size 9 1 v (n*h) ((R.foldl (qh (sP l) n) cells).map .string))\/(¬jT l/\∃pb,Wh aB aS aV l w.heap.size pb W/\e=.returned (.tuple #[.agg #[aa 0,aa 0,.slice none 0 0],.iface 90 (ay pb)])))/\Below w.heap.size w W:=by
 obtain⟨oc,cc,hcv⟩:=aM hc;subst hcv;obtain⟨Nk,Nl,OE⟩:=aM hr;subst OE;have b0:=bg w (.cells #[aa n,aa h,.slice oc (n*h) cc] 47);have r0:=dW w (.cells #[aa n,aa h,.slice oc (n*h) cc] 47);have b0':=bg (w.alloc (.cells #[aa n,aa h,.slice oc (n*h) cc] 47)) (.cells #[aa 0,aa 0,.slice none 0 0] 47);have r0':=dW (w.alloc (.cells #[aa n,aa h,.slice oc (n*h) cc] 47)) (.cells #[aa 0,aa 0,.slice none 0 0] 47);rw[dB] at r0';go_enter func107,ntmps107;go_upto_region 1 with fail;obtain⟨U,hU⟩:∃U,(w.alloc (.cells #[aa n,aa h,.slice oc (n*h) cc] 47)).alloc (.cells #[aa 0,aa 0,.slice none 0 0] 47)=U:=⟨_,rfl⟩;have b2:=aA b0 b0';have r1:=(b0'.block _ (cZ.1 r0).1).trans r0;rw[hU] at b2 r1 r0'⊢;clear hU b0 b0' r0;have CK:=yP aB aS aZ aV l o cap U hl (hR.below b2).at_ (hP.below b2 ai) (hE.below b2 ai);go_upto_region 2 with(go_at_call 46;refine CK.mono ?_;rintro e w1 ⟨hk,b1⟩;obtain⟨v,rfl,hv⟩:∃v,e=.returned v/\((jT l/\v=.nilIface)\/(¬jT l/\∃pb,Hid (Wh aB aS aV l U.heap.size pb w1)/\v=.iface 90 (ay pb))):=(by rcases hk with⟨k1,k2⟩|⟨pb,k1,k2⟩;exact⟨_,k2,.inl ⟨k1,rfl⟩⟩;exact⟨_,k2,.inr ⟨xH (by obtain⟨q,x,r,e1, -,e2, -⟩:=k1;exact⟨x,by rw[e1];simp,e2⟩),pb,k1,rfl⟩⟩));have hsU:w.heap.size+2<=U.heap.size:=by have:=aI r0';omega
 clear CK hk;have uP:=aA b2 b1;have p1:=(b1.block _ (cZ.1 r1).1).trans r1;have q1:=(b1.block _ (cZ.1 r0').1).trans r0';clear r1 r0';rcases hv with⟨hok,rfl⟩|⟨hno,pb,hfb,rfl⟩
 ·obtain⟨c0,c1,c2,f0,f1,f2⟩:=kU.of p1;have CT:=YO w1 _ cells (by rw[hcl];exact aQ hc uP) (by rw[hcl];have:=Nat.mul_le_mul hn hh;omega);rw[hcl] at CT;have CT:=CT.mono (R':=fun e w2=>∃o k,e=.returned (.slice o (n*h) k)/\w2.cell? ⟨w.heap.size,2,none⟩=some (.slice oc (n*h) cc)/\w2.frozen? ⟨w.heap.size,2,none⟩=false/\Hid (w2.ownsRow w1.heap.size 9 1 (.slice o (n*h) k) (n*h) (cells.map .string)/\Below w1.heap.size w1 w2/\w2.heap[w.heap.size]? =some (.cells #[aa n,aa h,.slice oc (n*h) cc] 47))) fun e w2 ⟨o,k,h1,h2,h3⟩=>by
    have p2:=(h3.block _ (cZ.1 p1).1).trans p1;obtain⟨-, -,e2, -, -,g2⟩:=kU.of p2;exact⟨o,k,h1,e2,g2,h2,h3,p2⟩
  go_upto_region 5 with(go_at_call 30;refine CT.mono ?_;rintro e w2 ⟨o2,k2,rfl,e2,g2,H2⟩);obtain⟨yc,bb2,p2⟩:=H2.out;have p3:(w2.setCell ⟨w.heap.size,2,none⟩ (.slice o2 (n*h) k2)).heap[w.heap.size]? =some (.cells #[aa n,aa h,.slice o2 (n*h) k2] 47):=by
   rw[heap_setCell_same w2 w.heap.size 2 _ _ _ p2];rfl
  have hsz1:w.heap.size<w1.heap.size:=(cZ.1 p1).1;have zT:(w2.setCell ⟨w.heap.size,2,none⟩ (.slice o2 (n*h) k2)).ownsRow w1.heap.size 9 1 (.slice o2 (n*h) k2) (n*h) (cells.map .string):=gX yc hsz1 _;have b3:Below w.heap.size w (w2.setCell ⟨w.heap.size,2,none⟩ (.slice o2 (n*h) k2)):=(aA uP bb2).setCell ai _;have q3:(w2.setCell ⟨w.heap.size,2,none⟩ (.slice o2 (n*h) k2)).heap[w.heap.size+1]? =some (.cells #[aa 0,aa 0,.slice none 0 0] 47):=(aY _ _ _ (w.heap.size+1) (by simp)).trans ((bb2.block _ (cZ.1 q1).1).trans q1);obtain⟨V,hV⟩:∃V,w2.setCell ⟨w.heap.size,2,none⟩ (.slice o2 (n*h) k2)=V:=⟨_,rfl⟩;rw[hV] at p3 zT b3 q3⊢;have hsV:w1.heap.size<=V.heap.size:=by rw[<- hV,World.size_setCell];exact bb2.size
  have hB1:Hid (w.heap.size+1<w1.heap.size):=(cZ.1 q1).1;obtain⟨B1,aao⟩:∃B1,w1.heap.size=B1:=⟨_,rfl⟩;rw[aao] at hB1 zT hsV hsz1;clear hV CT e2 g2 H2 yc bb2 p2 c0 c1 c2 f0 f1 f2 p1 q1 uP aao;obtain⟨g,cp,cur,hv3,hg1,hg2,hg3,hg4,hg5,hg6⟩:∃g cp cur,(Value.slice o2 (n*h) k2)=.slice (some ⟨g,0,none⟩) (n*h) cp/\B1<=g/\V.heap[g]? =some (.cells cur 9 (0,0))/\n*h<=cp/\cp<=maxLen/\cur.size=cp*1/\cur.toList.take (n*h*1)=cells.map .string:=by
   rcases zT.2 with⟨-,h0⟩|h0
   ·have:=Nat.mul_pos hn1 ug;omega
   ·exact h0
  cases hv3;go_wp2_with fail
  go_loopw [25] (fun i wr=>∃(k:Nat),k<=R.length/\i=aa k/\wr.heap[w.heap.size]? =some (.cells #[aa n,aa h,.slice (some ⟨g,0,none⟩) (n*h) k2] 47)/\wr.heap[w.heap.size+1]? =some (.cells #[aa 0,aa 0,.slice none 0 0] 47)/\wr.ownsRow B1 9 1 (.slice (some ⟨g,0,none⟩) (n*h) k2) (n*h) (((R.take k).foldl (qh (sP l) n) cells).map .string)/\Below w.heap.size w wr/\B1<=wr.heap.size) (fun i _=>R.length-(intOf i).toNat)
  case atStart=>exact⟨0,aP _,rfl,p3,q3,zT,b3,hsV⟩
  case round=>
   obtain⟨k,hk,rfl,hp,hq,hown,hb,hsz⟩:=hrel;obtain⟨c0,c1,c2,f0,f1,f2⟩:=kU.of hp;by_cases hlt:k<R.length
   ·have hlt':(k:Int)<(R.length:Int):=by omega
    obtain⟨y,hy⟩:∃y,R[k]? =some y:=⟨_,dK hlt⟩;have hyh:=hrh y (fV hy);obtain⟨g',hg',hcy⟩:=dF (aQ hr hb) k (aa (y:Int)) (by rw[aU,List.getElem?_map,List.getElem?_map,hy];rfl);obtain⟨oo,co,hov, -, -, -,hog⟩:=dL hr;cases hov;have a6j:=hog g' hg';subst a6j;have RW:=a4L aB aS aZ aV l o cap n (y:Int) wr hn1 hn (by omega) (by omega) hl (hR.below hb) (hP.below hb ai) (hE.below hb ai);have hmul:n*y+n<=n*h:=by have:=Nat.mul_le_mul_left n hyh;rw[Nat.mul_succ] at this;exact this
    have hnh:n*h<=1600:=Nat.mul_le_mul hn hh;obtain⟨off,hoff⟩:∃off,n*y=off:=⟨_,rfl⟩;have aip:(y:Int)*(n:Int)=(off:Int):=by rw[<- hoff];push_cast;exact Int.mul_comm _ _
    have RW2:au 163 #[.slice o l.length cap,aa n,aa y] wr fun e w4=>∃g4 c4,e=.returned (.tuple #[.slice (some ⟨g4,0,none⟩) n c4,.nilIface])/\w4.cell? ⟨w.heap.size,2,none⟩=some (.slice (some ⟨g,0,none⟩) (n*h) k2)/\w4.cell? ⟨w.heap.size,0,none⟩=some (aa n)/\∃cur,w4.heap[g]? =some (.cells cur 9 (0,0))/\Hid (w4.ownsRow wr.heap.size 9 1 (.slice (some ⟨g4,0,none⟩) n c4) n ((nP aN (sP l) n y).map .string)/\Below wr.heap.size wr w4/\cur.size=k2*1/\cur.toList.take (n*h*1)=((R.take k).foldl (qh (sP l) n) cells).map .string):=RW.mono fun e w4 ⟨h1,h2⟩=>by
     rcases h1 with⟨-,v,h1,h3⟩|⟨h1, -⟩
     ·obtain⟨g4,c4,rfl, -, -⟩:=h3.form (by omega);have hp4:=(h2.block _ (cZ.1 hp).1).trans hp;obtain⟨d0, -,d2, -, -, -⟩:=kU.of hp4;rcases(aQ hown h2).2 with⟨h5, -⟩|⟨g5,c5,aey,h5, -,h6, -, -,h7,h8⟩
      ·cases h5
      ·cases h5;exact⟨g4,c4,h1,d2,d0,aey,h6,h3,h2,h7,h8⟩
     ·exact absurd hok h1
    have HY:=aj hy;have HH:=aj hoff;have air:off+n<=n*h:=by rw[<- hoff];exact hmul
    clear RW hy hoff hmul hr hog;have hrw:=qQ aN (sP l) n (y:Int);clear hown;have h1o:(off:Int)<=((n*h:Nat):Int):=by omega
    have h2o:(off:Int)<(k2:Int):=by omega
    obtain⟨CS,hCS⟩:∃CS,(nP aN (sP l) n (y:Int)).map Value.string=CS:=⟨_,rfl⟩;have hcl':CS.length=n:=by rw[<- hCS,List.length_map,hrw]
    have HCP:∀(w4:ag) (g4 c4:Nat) (IJ:Array ah),w4.heap[g]? =some (.cells IJ 9 (0,0))->IJ.size=k2*1->w4.ownsRow wr.heap.size 9 1 (.slice (some ⟨g4,0,none⟩) n c4) n CS->∀ty,(Builtin.copy_ #[45,45] ty #[.slice (some ⟨g,off,none⟩) (n*h-off) (k2-off),.slice (some ⟨g4,0,none⟩) n c4]).run prog w4=.ok (aa n) (w4.setRow g (spl IJ off CS)):=fun w4 g4 c4 IJ h1 h2 h3 ty=>by
     have h4:=run_copy_row (P:=prog) w4 45 45 ty 9 g off (n*h-off) (k2-off) ⟨g4,0,none⟩ n c4 IJ 9 CS underlying45 (by kernel_rfl) h1 (by rw[hcl'];exact(Nat.min_eq_left (by omega)).symm) (Bi h3) (by omega) (by rw[<- hCS];exact GK _);rw[show goInt (CS.length:Int)=aa (n:Int) from by rw[hcl'];rfl] at h4;exact h4
    rw[hCS] at RW2;have HCS:Hid ((nP aN (sP l) n (y:Int)).map Value.string=CS/\CS.length=n):=⟨hCS,hcl'⟩;clear hCS hcl' hrw;go_wp2_with(go_at_call 163;refine RW2.mono ?_;rintro e w4 ⟨g4,c4,rfl,d2,d0,IJ,hc4,H4⟩;have CP:=HCP w4 g4 c4 IJ hc4 H4.out.2.2.1 H4.out.1)
    go_roundw
    case rel=>
     obtain⟨-,b4,hs4,hx4⟩:=H4.out;obtain⟨hC1,hC2⟩:=HCS.out;have hB1:=hB1.out;have hbw:=aA hb b4;have e1:∀j,j≠g->(w4.setRow g (spl IJ off CS)).heap[j]? =w4.heap[j]? :=fun j hj=>setRow_other w4 g j _ hj;refine⟨k+1,by omega,by go_num,?_,?_,?_,below_setRow hbw (by omega) _,?_⟩
     ·rw[e1 _ (by omega)];exact(b4.block _ (cZ.1 hp).1).trans hp
     ·rw[e1 _ (by omega)];exact(b4.block _ (cZ.1 hq).1).trans hq
     ·have h5:=a2p (B:=B1) (off:=off) (cs:=CS) hg1 hc4 hg3 hg4 hs4 hx4 (by omega);rw[List.take_add_one,HY.out,List.foldl_append];show World.ownsRow _ _ _ _ _ _ ((qh (sP l) n ((R.take k).foldl (qh (sP l) n) cells) y).map Value.string);unfold qh;rw[List.map_append,List.map_append,List.map_take,List.map_drop,HH.out,hC1];rw[hC2] at h5;exact h5
     ·have h6:(w4.setRow g (spl IJ off CS)).heap.size=w4.heap.size:=by simp[World.setRow]
      rw[h6];exact aJ hsz b4.size
    case measure=>simp[intOf];omega
   ·obtain rfl:k=R.length:=by omega
    rw[List.take_length] at hown;obtain⟨q0,q1,q2,z0,z1,z2⟩:=kU.of hq;go_wp2_with fail;have r4:=GJ hq (aa n) (aa h) (.slice (some ⟨g,0,none⟩) (n*h) k2);obtain⟨e0,e1,e2, -, -, -⟩:=kU.of r4;refine bodyPost_ret (v:=.tuple #[.agg #[aa n,aa h,.slice (some ⟨g,0,none⟩) (n*h) k2],.nilIface]) (by simp[results,results107,go_sem,e0,e1,e2]) rfl ?_;have hB1:=hB1.out;refine⟨.inl ⟨hok,_,rfl,?_⟩,((hb.setCell (by simp) _).setCell (by simp) _).setCell (by simp) _⟩;exact eZ (gX (gX (gX hown (by simp;omega) _) (by simp;omega) _) (by simp;omega) _) (by omega)
 ·obtain⟨q0,q1',q2,z0,z1,z2⟩:=kU.of q1;go_wp2_with fail;have r3:=GJ q1 (aa 0) (aa 0) (.slice none 0 0);obtain⟨e0,e1,e2, -, -, -⟩:=kU.of r3;refine bodyPost_ret (v:=.tuple #[.agg #[aa 0,aa 0,.slice none 0 0],.iface 90 (ay pb)]) (by simp[results,results107,go_sem,e0,e1,e2]) rfl ?_;obtain⟨q,x,r,e1,e2,e3,e4,⟨n0,e6⟩,e5⟩:=hfb.out;have hne:w.heap.size+1≠pb:=by omega
  exact⟨.inr ⟨hno,pb,⟨q,x,r,e1,e2,e3,by omega,⟨n0,by rw[aO _ _ _ _ hne,aO _ _ _ _ hne,aO _ _ _ _ hne];exact e6⟩,by rw[aO _ _ _ _ hne,aO _ _ _ _ hne,aO _ _ _ _ hne];exact e5⟩,rfl⟩,((uP.setCell (by simp) _).setCell (by simp) _).setCell (by simp) _⟩
end Go.Proofs.YtecneflbncjhpaaGreatDoor

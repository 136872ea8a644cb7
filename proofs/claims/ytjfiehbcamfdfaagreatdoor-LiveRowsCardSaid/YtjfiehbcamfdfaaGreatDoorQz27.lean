/- Parts of the proof. -/
import Derived.Test.YtjfiehbcamfdfaaGreatDoorQz26
import Derived.Laws.CopyOwn
namespace Go.Proofs.YtjfiehbcamfdfaaGreatDoor
open Go.Proofs.Tryz
set_option maxHeartbeats 16000000
section
open Go.RowKit
set_option maxRecDepth 20000
def kE (l:List Pm)(n:Nat)(c:List aD)(y:Nat):List aD:=c.take (n*y)++mO aI l n (y:Int)++c.drop (n*y+n)
theorem EX (b:List Pc)(n:Nat):∀(R:List Nat) (c:List aD),C8 c b n R=R.foldl (kE (b.map fK) n) c
 |[],_=>rfl
 |y::R,c=>by rw[C8,EX b n R,List.foldl_cons];rfl
theorem Ki {l:List Pm}{n h y:Nat}{c:List aD}(hc:c.length=n*h)(hy:y<h):(kE l n c y).length=n*h:=(Qg hc (mP aI l n (y:Int)) hy).1
theorem Kj {l:List Pm}{n h:Nat}:∀(R:List Nat) (c:List aD),c.length=n*h->(∀y∈R,y<h)->(R.foldl (kE l n) c).length=n*h
 |[],_,hc,_=>hc
 |y::R,c,hc,hR=>Kj R _ (Ki hc (hR y (by simp))) (fun z hz=>hR z (by simp[hz]))
theorem XC {B:Nat}(w:ag)(v:ah)(L:List aD)(h:w.ownsRow B 9 1 v L.length (L.map .string))(hl:L.length<=1000000):
  ax 27 #[v] w fun e w'=>∃o k,e=.returned (.slice o L.length k)/\w'.ownsRow w.heap.size 9 1 (.slice o L.length k) L.length (L.map .string)/\Below w.heap.size w w':=by
 have q22:∀(w:ag) (a:Option Addr) (n c n' c':Nat),(binOp .eql 38 (.slice a n c) (.slice none n' c')).run prog w=.ok (.bool a.isNone) w:=fun w a n c n' c'=>Lib.run_eql_slice_nil w _ _ a n c n' c' underlying38;obtain⟨i0,hi,hz0,hz1,hz2⟩:=info_parts Fs;rcases h.2 with⟨rfl,hn⟩|⟨g,cap,cur,rfl,_,_,h1,h2,_,_⟩
 ·have hz:L=[]:=List.length_eq_zero_iff.1 hn;subst hz;go_enter func27,ntmps27;go_wp2_with fail;go_ret;exact⟨none,0,rfl,World.ownsRow_nil _ _ _ _,Below.refl _ _⟩
 ·have HN:Hid (∀j u,(L.map Value.string)[j]? =some u->(w.alloc (.cells #[] 9)).cell? ((⟨g,0,none⟩:Addr).add j)=some u):=fun j u hj=>by
   have h3:=Ab h j u hj;exact((aU w _).cell (aC h3)).trans h3
  clear h;go_enter func27,ntmps27;go_wp2_with(at_builtin;refine wpList_append_own _ rfl _ _ 38 rfl w.heap.size 9 i0 (.string ⟨#[]⟩) 1 16 underlying38 hi hz0 hz1 hz2 rfl (by decide) _ _ _ rfl (World.ownsRow_made w #[] 0 ai (Nat.zero_le _) (by simp)) ⟨g,0,none⟩ L.length cap (L.map .string) rfl (by simp) HN.out (Fu L) (by simp only[maxLen];omega) (by omega) (by simp) ?_;intro v7 w7 kF lH _;obtain⟨o7,tK,rfl⟩:=aH kF);go_ret;refine⟨o7,tK,by simp,by simpa using kF,((Below.refl _ w).alloc ai _).grown lH (by simp) (fun k hk=>by have hk':some w.heap.size=some k:=hk;cases hk';exact Nat.le_refl _)⟩
def spl (cur:Array ah)(off:Nat)(cs:List ah):Array ah:=(cur.toList.take off++cs++cur.toList.drop (off+cs.length)).toArray
theorem a0H {w:ag}{B g n cap off:Nat}{xs cs:List ah}{cur:Array ah}(hB:B<=g)(hg:w.heap[g]? =some (.cells cur 9 (0,0)))(hn:n<=cap)(hm:cap<=maxLen)(hs:cur.size=cap*1)(hx:cur.toList.take (n*1)=xs)(hf:off+cs.length<=n):
  (w.setRow g (spl cur off cs)).ownsRow B 9 1 (.slice (some ⟨g,0,none⟩) n cap) n (xs.take off++cs++xs.drop (off+cs.length)):=by
 have hl:cur.toList.length=cap:=by simpa using hs
 have hxl:xs.length=n:=by rw[<- hx,List.length_take,hl];omega
 refine⟨by rw[List.length_append,List.length_append,List.length_take,List.length_drop,hxl];omega,.inr ⟨g,cap,_,rfl,hB,setRow_heap w g _ _ _ _ hg,hn,hm,?_,?_⟩⟩
 ·simp[spl,hl];omega
 ·rw[Nat.mul_one] at hx⊢;unfold spl;have h1:(cur.toList.take off).length=off:=by rw[List.length_take];omega
  rw[<- hx,List.take_take,Nat.min_eq_left (by omega),List.append_assoc,List.append_assoc,List.drop_take,List.take_append,List.take_of_length_le (l:=cur.toList.take off) (by omega),h1,List.take_append,List.take_of_length_le (l:=cs) (by omega),Nat.sub_sub]
theorem yX (aB aS aZ aV:Addr)(l:List P5)(o:Option Addr)(cap n h:Nat)(cells:List aD)(B:Nat)(cv:ah)(R:List Nat)(B2:Nat)(rv:ah)(w:ag)(hn1:1<=n)(hn:n<=40)(Ac:1<=h)(hh:h<=40)(hl:l.length<=1000)(hR:yN w o cap l)(hP:iK w l)(hE:EP aB aS aZ aV w)
  (hc:w.ownsRow B 9 1 cv (n*h) (cells.map .string)) (hcl:cells.length=n*h) (hr:w.ownsRow B2 3 1 rv R.length (bD (R.map fun(y:Nat)=>(y:Int)))) (hrl:R.length<=1000) (hrh:∀y∈R,y<h):
  ax 32 #[.agg #[aa n,aa h,cv],.slice o l.length cap,rv] w fun e W=>((jy l/\∃v,e=.returned (.tuple #[.agg #[aa n,aa h,v],.nilIface])/\W.ownsRow w.heap.size 9 1 v (n*h) ((R.foldl (kE (sP l) n) cells).map .string))\/(¬jy l/\∃a,e=.returned (.tuple #[.agg #[aa 0,aa 0,.slice none 0 0],.iface 113 (.pointer (some a))])))/\Below w.heap.size w W:=by
 obtain⟨oc,cc,hcv⟩:=aH hc;subst hcv;obtain⟨Lv,Lx,N7⟩:=aH hr;subst N7;have b0:=aU w (.cells #[aa n,aa h,.slice oc (n*h) cc] 40);have r0:=World.alloc_heap_new w (.cells #[aa n,aa h,.slice oc (n*h) cc] 40);have b0':=aU (w.alloc (.cells #[aa n,aa h,.slice oc (n*h) cc] 40)) (.cells #[aa 0,aa 0,.slice none 0 0] 40);have r0':=World.alloc_heap_new (w.alloc (.cells #[aa n,aa h,.slice oc (n*h) cc] 40)) (.cells #[aa 0,aa 0,.slice none 0 0] 40);rw[World.size_alloc] at r0';go_enter func32,ntmps32;go_upto_region 1 with fail;obtain⟨U,hU⟩:∃U,(w.alloc (.cells #[aa n,aa h,.slice oc (n*h) cc] 40)).alloc (.cells #[aa 0,aa 0,.slice none 0 0] 40)=U:=⟨_,rfl⟩;have b2:=aA b0 b0';have r1:=(b0'.block _ (Array.getElem?_eq_some_iff.1 r0).1).trans r0;rw[hU] at b2 r1 r0'⊢;clear hU b0 b0' r0;have CK:=wK aB aS aZ aV l o cap U hl (hR.below b2).at_ (hP.below b2 ai) (hE.below b2 ai);go_upto_region 2 with(go_at_call 47;refine CK.mono ?_;rintro e w1 ⟨hk,b1⟩;obtain⟨v,rfl,hv⟩:∃v,e=.returned v/\((jy l/\v=.nilIface)\/(¬jy l/\∃a,v=.iface 113 (.pointer (some a)))):=(by rcases hk with⟨k1,k2⟩|⟨k1,a,k2⟩;exact⟨_,k2,.inl ⟨k1,rfl⟩⟩;exact⟨_,k2,.inr ⟨wL k1,a,rfl⟩⟩));clear CK hk;have sS:=aA b2 b1;have p1:=(b1.block _ (Array.getElem?_eq_some_iff.1 r1).1).trans r1;have q1:=(b1.block _ (Array.getElem?_eq_some_iff.1 r0').1).trans r0';clear r1 r0';rcases hv with⟨hok,rfl⟩|⟨hno,a,rfl⟩
 ·obtain⟨c0,c1,c2,f0,f1,f2⟩:=lY.of p1;have CT:=XC w1 _ cells (by rw[hcl];exact aP hc sS) (by rw[hcl];have:=Nat.mul_le_mul hn hh;omega);rw[hcl] at CT;have CT:=CT.mono (R':=fun e w2=>∃o k,e=.returned (.slice o (n*h) k)/\w2.cell? ⟨w.heap.size,2,none⟩=some (.slice oc (n*h) cc)/\w2.frozen? ⟨w.heap.size,2,none⟩=false/\Hid (w2.ownsRow w1.heap.size 9 1 (.slice o (n*h) k) (n*h) (cells.map .string)/\Below w1.heap.size w1 w2/\w2.heap[w.heap.size]? =some (.cells #[aa n,aa h,.slice oc (n*h) cc] 40))) fun e w2 ⟨o,k,h1,h2,h3⟩=>by
    have p2:=(h3.block _ (Array.getElem?_eq_some_iff.1 p1).1).trans p1;obtain⟨-, -,e2, -, -,g2⟩:=lY.of p2;exact⟨o,k,h1,e2,g2,h2,h3,p2⟩
  go_upto_region 5 with(go_at_call 27;refine CT.mono ?_;rintro e w2 ⟨o2,k2,rfl,e2,g2,H2⟩);obtain⟨Ls,bb2,p2⟩:=H2.out;have p3:(w2.setCell ⟨w.heap.size,2,none⟩ (.slice o2 (n*h) k2)).heap[w.heap.size]? =some (.cells #[aa n,aa h,.slice o2 (n*h) k2] 40):=by
   rw[heap_setCell_same w2 w.heap.size 2 _ _ _ p2];rfl
  have hsz1:w.heap.size<w1.heap.size:=(Array.getElem?_eq_some_iff.1 p1).1;have ED:(w2.setCell ⟨w.heap.size,2,none⟩ (.slice o2 (n*h) k2)).ownsRow w1.heap.size 9 1 (.slice o2 (n*h) k2) (n*h) (cells.map .string):=iR Ls hsz1 _;have b3:Below w.heap.size w (w2.setCell ⟨w.heap.size,2,none⟩ (.slice o2 (n*h) k2)):=(aA sS bb2).setCell ai _;have q3:(w2.setCell ⟨w.heap.size,2,none⟩ (.slice o2 (n*h) k2)).heap[w.heap.size+1]? =some (.cells #[aa 0,aa 0,.slice none 0 0] 40):=(Below.heap_setCell _ _ _ (w.heap.size+1) (by simp)).trans ((bb2.block _ (Array.getElem?_eq_some_iff.1 q1).1).trans q1);obtain⟨V,hV⟩:∃V,w2.setCell ⟨w.heap.size,2,none⟩ (.slice o2 (n*h) k2)=V:=⟨_,rfl⟩;rw[hV] at p3 ED b3 q3⊢;have hsV:w1.heap.size<=V.heap.size:=by rw[<- hV,World.size_setCell];exact bb2.size
  have hB1:Hid (w.heap.size+1<w1.heap.size):=(Array.getElem?_eq_some_iff.1 q1).1;obtain⟨B1,a8w⟩:∃B1,w1.heap.size=B1:=⟨_,rfl⟩;rw[a8w] at hB1 ED hsV hsz1;clear hV CT e2 g2 H2 Ls bb2 p2 c0 c1 c2 f0 f1 f2 p1 q1 sS a8w;obtain⟨g,cp,cur,hv3,hg1,hg2,hg3,hg4,hg5,hg6⟩:∃g cp cur,(Value.slice o2 (n*h) k2)=.slice (some ⟨g,0,none⟩) (n*h) cp/\B1<=g/\V.heap[g]? =some (.cells cur 9 (0,0))/\n*h<=cp/\cp<=maxLen/\cur.size=cp*1/\cur.toList.take (n*h*1)=cells.map .string:=by
   rcases ED.2 with⟨-,h0⟩|h0
   ·have:=Nat.mul_pos hn1 Ac;omega
   ·exact h0
  cases hv3;go_wp2_with fail
  go_loopw [25] (fun i wr=>∃(k:Nat),k<=R.length/\i=aa k/\wr.heap[w.heap.size]? =some (.cells #[aa n,aa h,.slice (some ⟨g,0,none⟩) (n*h) k2] 40)/\wr.heap[w.heap.size+1]? =some (.cells #[aa 0,aa 0,.slice none 0 0] 40)/\wr.ownsRow B1 9 1 (.slice (some ⟨g,0,none⟩) (n*h) k2) (n*h) (((R.take k).foldl (kE (sP l) n) cells).map .string)/\Below w.heap.size w wr/\B1<=wr.heap.size) (fun i _=>R.length-(intOf i).toNat)
  case atStart=>exact⟨0,Nat.zero_le _,rfl,p3,q3,ED,b3,hsV⟩
  case round=>
   obtain⟨k,hk,rfl,hp,hq,hown,hb,hsz⟩:=hrel;obtain⟨c0,c1,c2,f0,f1,f2⟩:=lY.of hp;by_cases hlt:k<R.length
   ·have hlt':(k:Int)<(R.length:Int):=by omega
    obtain⟨y,hy⟩:∃y,R[k]? =some y:=⟨_,List.getElem?_eq_getElem hlt⟩;have hyh:=hrh y (List.mem_of_getElem? hy);obtain⟨g',hg',hcy⟩:=bO (aP hr hb) k (aa (y:Int)) (by rw[bD,List.getElem?_map,List.getElem?_map,hy];rfl);obtain⟨oo,co,hov, -, -, -,hog⟩:=bS hr;cases hov;have acw:=hog g' hg';subst acw;have RW:=a2J aB aS aZ aV l o cap n (y:Int) wr hn1 hn (by omega) (by omega) hl (hR.below hb) (hP.below hb ai) (hE.below hb ai);have hmul:n*y+n<=n*h:=by have:=Nat.mul_le_mul_left n hyh;rw[Nat.mul_succ] at this;exact this
    have hnh:n*h<=1600:=Nat.mul_le_mul hn hh;obtain⟨off,hoff⟩:∃off,n*y=off:=⟨_,rfl⟩;have agF:(y:Int)*(n:Int)=(off:Int):=by rw[<- hoff];push_cast;exact Int.mul_comm _ _
    have RW2:ax 65 #[.slice o l.length cap,aa n,aa y] wr fun e w4=>∃g4 c4,e=.returned (.tuple #[.slice (some ⟨g4,0,none⟩) n c4,.nilIface])/\w4.cell? ⟨w.heap.size,2,none⟩=some (.slice (some ⟨g,0,none⟩) (n*h) k2)/\w4.cell? ⟨w.heap.size,0,none⟩=some (aa n)/\∃cur,w4.heap[g]? =some (.cells cur 9 (0,0))/\Hid (w4.ownsRow wr.heap.size 9 1 (.slice (some ⟨g4,0,none⟩) n c4) n ((mO aI (sP l) n y).map .string)/\Below wr.heap.size wr w4/\cur.size=k2*1/\cur.toList.take (n*h*1)=((R.take k).foldl (kE (sP l) n) cells).map .string):=RW.mono fun e w4 ⟨h1,h2⟩=>by
     rcases h1 with⟨-,v,h1,h3⟩|⟨h1, -⟩
     ·obtain⟨g4,c4,rfl, -, -⟩:=h3.form (by omega);have hp4:=(h2.block _ (Array.getElem?_eq_some_iff.1 hp).1).trans hp;obtain⟨d0, -,d2, -, -, -⟩:=lY.of hp4;rcases(aP hown h2).2 with⟨h5, -⟩|⟨g5,c5,acy,h5, -,h6, -, -,h7,h8⟩
      ·cases h5
      ·cases h5;exact⟨g4,c4,h1,d2,d0,acy,h6,h3,h2,h7,h8⟩
     ·exact absurd hok h1
    have HY:=aj hy;have HH:=aj hoff;have agH:off+n<=n*h:=by rw[<- hoff];exact hmul
    clear RW hy hoff hmul hr hog;have hrw:=mP aI (sP l) n (y:Int);clear hown;have h1o:(off:Int)<=((n*h:Nat):Int):=by omega
    have h2o:(off:Int)<(k2:Int):=by omega
    obtain⟨CS,hCS⟩:∃CS,(mO aI (sP l) n (y:Int)).map Value.string=CS:=⟨_,rfl⟩;have hcl':CS.length=n:=by rw[<- hCS,List.length_map,hrw]
    have HCP:∀(w4:ag) (g4 c4:Nat) (Gw:Array ah),w4.heap[g]? =some (.cells Gw 9 (0,0))->Gw.size=k2*1->w4.ownsRow wr.heap.size 9 1 (.slice (some ⟨g4,0,none⟩) n c4) n CS->∀ty,(Builtin.copy_ #[38,38] ty #[.slice (some ⟨g,off,none⟩) (n*h-off) (k2-off),.slice (some ⟨g4,0,none⟩) n c4]).run prog w4=.ok (aa n) (w4.setRow g (spl Gw off CS)):=fun w4 g4 c4 Gw h1 h2 h3 ty=>by
     have h4:=run_copy_row (P:=prog) w4 38 38 ty 9 g off (n*h-off) (k2-off) ⟨g4,0,none⟩ n c4 Gw 9 CS underlying38 (by kernel_rfl) h1 (by rw[hcl'];exact(Nat.min_eq_left (by omega)).symm) (Ab h3) (by omega) (by rw[<- hCS];exact Fu _);rw[show goInt (CS.length:Int)=aa (n:Int) from by rw[hcl'];rfl] at h4;exact h4
    rw[hCS] at RW2;have HCS:Hid ((mO aI (sP l) n (y:Int)).map Value.string=CS/\CS.length=n):=⟨hCS,hcl'⟩;clear hCS hcl' hrw;go_wp2_with(go_at_call 65;refine RW2.mono ?_;rintro e w4 ⟨g4,c4,rfl,d2,d0,Gw,hc4,H4⟩;have CP:=HCP w4 g4 c4 Gw hc4 H4.out.2.2.1 H4.out.1)
    go_roundw
    case rel=>
     obtain⟨-,b4,hs4,hx4⟩:=H4.out;obtain⟨hC1,hC2⟩:=HCS.out;have hB1:=hB1.out;have hbw:=aA hb b4;have e1:∀j,j≠g->(w4.setRow g (spl Gw off CS)).heap[j]? =w4.heap[j]? :=fun j hj=>setRow_other w4 g j _ hj;refine⟨k+1,by omega,by go_num,?_,?_,?_,below_setRow hbw (by omega) _,?_⟩
     ·rw[e1 _ (by omega)];exact(b4.block _ (Array.getElem?_eq_some_iff.1 hp).1).trans hp
     ·rw[e1 _ (by omega)];exact(b4.block _ (Array.getElem?_eq_some_iff.1 hq).1).trans hq
     ·have h5:=a0H (B:=B1) (off:=off) (cs:=CS) hg1 hc4 hg3 hg4 hs4 hx4 (by omega);rw[List.take_add_one,HY.out,List.foldl_append];show World.ownsRow _ _ _ _ _ _ ((kE (sP l) n ((R.take k).foldl (kE (sP l) n) cells) y).map Value.string);unfold kE;rw[List.map_append,List.map_append,List.map_take,List.map_drop,HH.out,hC1];rw[hC2] at h5;exact h5
     ·have h6:(w4.setRow g (spl Gw off CS)).heap.size=w4.heap.size:=by simp[World.setRow]
      rw[h6];exact Nat.le_trans hsz b4.size
    case measure=>simp[intOf];omega
   ·obtain rfl:k=R.length:=by omega
    rw[List.take_length] at hown;obtain⟨q0,q1,q2,z0,z1,z2⟩:=lY.of hq;go_wp2_with fail;have r4:=UN hq (aa n) (aa h) (.slice (some ⟨g,0,none⟩) (n*h) k2);obtain⟨e0,e1,e2, -, -, -⟩:=lY.of r4;refine bodyPost_ret (v:=.tuple #[.agg #[aa n,aa h,.slice (some ⟨g,0,none⟩) (n*h) k2],.nilIface]) (by simp[results,results32,go_sem,e0,e1,e2]) rfl ?_;have hB1:=hB1.out;refine⟨.inl ⟨hok,_,rfl,?_⟩,((hb.setCell (by simp) _).setCell (by simp) _).setCell (by simp) _⟩;exact fH (iR (iR (iR hown (by simp;omega) _) (by simp;omega) _) (by simp;omega) _) (by omega)
 ·obtain⟨q0,q1',q2,z0,z1,z2⟩:=lY.of q1;go_wp2_with fail;have r3:=UN q1 (aa 0) (aa 0) (.slice none 0 0);obtain⟨e0,e1,e2, -, -, -⟩:=lY.of r3;refine bodyPost_ret (v:=.tuple #[.agg #[aa 0,aa 0,.slice none 0 0],.iface 113 (.pointer (some a))]) (by simp[results,results32,go_sem,e0,e1,e2]) rfl ?_;exact⟨.inr ⟨hno,a,rfl⟩,((sS.setCell (by simp) _).setCell (by simp) _).setCell (by simp) _⟩
theorem Dw (aB aS aZ:Addr)(x:P5)(y:Int)(By:Nat)(w:ag)(hl:x.s.pts.length<=1000)(h:eO w x.o x.s.pts)(hE:E3 aB aS aZ w)(hy:w.cell? (ak By 0)=some (aa y)):
  ax 113 #[UC x,ay By] w fun e W=>e=.returned (.bool (!aI x.s.pts y))/\Below w.heap.size w W:=by
 have b0:=aU w (.cells (wH x) 138);have RE:=xU aB aS aZ x y (w.alloc (.cells (wH x) 138)) hl (h.below b0 ai) (hE.below b0 ai);have hy1:=(b0.cell (aC hy)).trans hy;go_enter func113,ntmps113;go_wp2_with(go_at_call 87;refine RE.mono ?_;rintro e w1 ⟨rfl,b1⟩);go_ret;exact⟨rfl,aA b0 b1⟩
theorem vT (aB aS aZ:Addr)(l:List P5)(o:Option Addr)(cap:Nat)(y:Int)(w:ag)(hl:l.length<=1000)(h:yN w o cap l)(hP:iK w l)(hp:∀x∈l,x.s.pts.length<=1000)(hE:E3 aB aS aZ w):
  ax 63 #[.slice o l.length cap,aa y] w fun e W=>∃oo cc,e=.returned (.slice oo (l.filter fun x=>aI x.s.pts y).length cc)/\gV W oo (l.filter fun x=>aI x.s.pts y)/\Below w.heap.size w W:=by
 obtain⟨lr,hlr⟩:∃lr,(l.filter fun x=>aI x.s.pts y)=lr:=⟨_,rfl⟩;rw[hlr];have Ib:Hid ((l.filter fun x=> !!aI x.s.pts y)=lr):=(by simpa using hlr:(l.filter fun x=> !!aI x.s.pts y)=lr);clear hlr;have b0:=aU w (.cells #[aa y] 3);have hcy:=(iy w (aa y) 3).1;go_enter func63,ntmps63;go_upto_region 1 with fail;obtain⟨U,hU⟩:∃U,w.alloc (.cells #[aa y] 3)=U:=⟨_,rfl⟩;rw[hU] at b0 hcy⊢;clear hU;have Z7:=hP.below b0 ai;have Lp:=hE.below b0 ai;have CL:=I9 U o cap l (h.below b0) hl;have AR:Z8 U.heap.size 113 w.heap.size U l (fun x=> !aI x.s.pts y):=fun x hx V hV=>Dw aB aS aZ x y w.heap.size V (hp x hx) ((Z7 x hx).below hV ai) (Lp.below hV ai) ((hV.cell (aC hcy)).trans hcy);have DF:∀v1 w1,Own5 w1 U.heap.size v1 l->Below U.heap.size U w1->ax 84 #[v1,rfV 113 w.heap.size] w1 fun e w2=>∃oo cc,e=.returned (.slice oo lr.length cc)/\gV w2 oo lr/\Below U.heap.size U w2:=fun v1 w1 Aa b1=>by
  rcases Aa.rw with⟨rfl,rfl⟩|⟨b,cc,rfl,hb1,hb2,hb3,hrw⟩
  ·refine(Eb 113 w.heap.size (oJ _ _ func113 (by kernel_rfl) (by kernel_rfl)) w1).mono ?_;rintro e w2 ⟨rfl,b2⟩;exact⟨none,0,by rw[<- Ib.out];rfl,fun i x hx=>by rw[<- Ib.out] at hx;simp at hx,aA b1 b2⟩
  ·refine(Ea U.heap.size 113 w.heap.size (oJ _ _ func113 (by kernel_rfl) (by kernel_rfl)) (fun x=> !aI x.s.pts y) l b cc U w1 hl hrw hb1 hb2 hb3 b1 AR).mono ?_;rintro e w2 ⟨rfl,hrw2,b2, -⟩;exact⟨some ⟨b,0,none⟩,cc,by rw[<- Ib.out],by rw[<- Ib.out];exact hrw2.at_,b2⟩
 clear AR Z7 Lp hP hE Ib h hp;go_wp2_with(first|(go_at_call 84;refine(DF _ _ Aa b1).mono ?_;rintro e w2 ⟨oo,cc,rfl,h2,b2⟩)|(go_at_call 85;refine CL.mono ?_;rintro e w1 ⟨v1,rfl,Aa,b1⟩));go_ret;exact⟨oo,cc,rfl,h2,aA b0 b2⟩
end
end Go.Proofs.YtjfiehbcamfdfaaGreatDoor

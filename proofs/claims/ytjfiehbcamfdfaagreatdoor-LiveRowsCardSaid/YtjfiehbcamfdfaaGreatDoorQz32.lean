/- Parts of the proof. -/
import Derived.Test.YtjfiehbcamfdfaaGreatDoorQz30
namespace Go.Proofs.YtjfiehbcamfdfaaGreatDoor
open Go.Proofs.Tryz
set_option maxHeartbeats 4000000
section
open Go.RowKit
structure EdQ (w:ag)(b i:Nat)(x:Ed):Prop where
 c0:w.cell? (ak b i)=some (fe x.kd)
 c1:w.cell? (ak b (i+1))=some (aa x.n)
 c2:w.cell? (ak b (i+2))=some (aa x.m)
 c3:w.cell? (ak b (i+3))=some (aa x.ea)
 c4:w.cell? (ak b (i+4))=some (fe x.nm)
 c5:w.cell? (ak b (i+5))=some (fe x.vl)
 wn:bA x.n
 wm:bA x.m
 wa:bA x.ea
 lk:x.kd.length<=maxLen
 ln:x.nm.length<=maxLen
 lv:x.vl.length<=maxLen
theorem EdQ.below {w w':ag}{b i:Nat}{x:Ed}(h:EdQ w b i x)(hb:Below w.heap.size w w'):EdQ w' b i x:=
 ⟨(hb.cell (az h.c0)).trans h.c0,(hb.cell (az h.c1)).trans h.c1,(hb.cell (az h.c2)).trans h.c2,(hb.cell (az h.c3)).trans h.c3,(hb.cell (az h.c4)).trans h.c4,(hb.cell (az h.c5)).trans h.c5,h.wn,h.wm,h.wa,h.lk,h.ln,h.lv⟩
def vW (w:ag)(o:Option Addr)(l:List Ed):Prop:=∀i x,l[i]? =some x->∃b off,o=some ⟨b,off,none⟩/\EdQ w b (off+i*6) x
def a8V (w:ag)(v:ah)(l:List Ed):Prop:=∃o cap,v=.slice o l.length cap/\vW w o l
theorem vW.below {w w':ag}{o:Option Addr}{l:List Ed}(h:vW w o l)(hb:Below w.heap.size w w'):vW w' o l:=fun i x hx=>by
 obtain⟨b,off,h1,h2⟩:=h i x hx;exact⟨b,off,h1,h2.below hb⟩
theorem a1h:prog.cellsOf 37=6:=by kernel_rfl
theorem F6 {w:ag}{base:Nat}{a:Addr}{cs:List ah}(h:w.cells? base a 6=some cs):∃b off c0 c1 c2 c3 c4 c5,a=⟨b,off,none⟩/\cs=[c0,c1,c2,c3,c4,c5]/\w.cell? (ak b off)=some c0/\w.cell? (ak b (off+1))=some c1/\w.cell? (ak b (off+2))=some c2/\w.cell? (ak b (off+3))=some c3/\w.cell? (ak b (off+4))=some c4/\w.cell? (ak b (off+5))=some c5:=by
 unfold World.cells? at h;split at h
 ·simp only[List.range_succ,List.range_zero,List.nil_append,List.cons_append,List.mapM_cons,List.mapM_nil] at h;cases h0:w.cell? (a.add 0) with
  |none=>simp[h0] at h
  |some c0=>
  cases h1:w.cell? (a.add 1) with
  |none=>simp[h0,h1] at h
  |some c1=>
  cases h2:w.cell? (a.add 2) with
  |none=>simp[h0,h1,h2] at h
  |some c2=>
  cases h3:w.cell? (a.add 3) with
  |none=>simp[h0,h1,h2,h3] at h
  |some c3=>
  cases h4:w.cell? (a.add 4) with
  |none=>simp[h0,h1,h2,h3,h4] at h
  |some c4=>
  cases h5:w.cell? (a.add 5) with
  |none=>simp[h0,h1,h2,h3,h4,h5] at h
  |some c5=>
   simp[h0,h1,h2,h3,h4,h5] at h;obtain⟨b,off,sp⟩:=a;cases sp with
   |some s=>
    simp[Addr.add,World.cell?] at h0;split at h0<;>cases h0
   |none=>exact⟨b,off,c0,c1,c2,c3,c4,c5,rfl,h.symm,by simpa[Addr.add] using h0,by simpa[Addr.add] using h1,by simpa[Addr.add] using h2,by simpa[Addr.add] using h3,by simpa[Addr.add] using h4,by simpa[Addr.add] using h5⟩
 ·cases h
theorem a4K:prog.cellsOf 3=1:=by kernel_rfl
section
variable {H:Type}{enc:TypeId×ah->H}{w:ag}{base:Nat}{spare:Nat->Bool}{held:Bool}
theorem Cq {fuel:Nat}{c:ah}{x:DataW H×List MemPlace}(h:DataW.trod enc prog w base spare held fuel 3 [c]=some x):∃k:Int,c=aa k/\bA k:=by
 obtain⟨k,h1,_,hk⟩:=DataW.trod_int underlying3 h;simp at h1;exact⟨k,h1,hk⟩
theorem Yb {t:TypeId}{f0 f1 f2 f3 f4 f5:Field}{fuel:Nat}{cs:List ah}{x:DataW H×List MemPlace}{P:Program}(ht:P.underlying t=some (.struct #[f0,f1,f2,f3,f4,f5]))(h:DataW.trod enc P w base spare held fuel t cs=some x):
  ∃y0 y1 y2 y3 y4 y5 n,DataW.trod enc P w base spare held n f0.type ((cs.drop f0.offset).take (P.cellsOf f0.type))=some y0/\DataW.trod enc P w base spare held n f1.type ((cs.drop f1.offset).take (P.cellsOf f1.type))=some y1/\DataW.trod enc P w base spare held n f2.type ((cs.drop f2.offset).take (P.cellsOf f2.type))=some y2/\
   DataW.trod enc P w base spare held n f3.type ((cs.drop f3.offset).take (P.cellsOf f3.type))=some y3/\DataW.trod enc P w base spare held n f4.type ((cs.drop f4.offset).take (P.cellsOf f4.type))=some y4/\DataW.trod enc P w base spare held n f5.type ((cs.drop f5.offset).take (P.cellsOf f5.type))=some y5:=by
 obtain⟨xs,n,hn,rfl,hl,hlen,hf⟩:=DataW.trod_struct ht h
 match xs,hlen with
 |[y0,y1,y2,y3,y4,y5],_=>exact⟨y0,y1,y2,y3,y4,y5,n,by simpa using hf 0 f0 rfl,by simpa using hf 1 f1 rfl,by simpa using hf 2 f2 rfl,by simpa using hf 3 f3 rfl,by simpa using hf 4 f4 rfl,by simpa using hf 5 f5 rfl⟩
theorem a1i {fuel:Nat}{c0 c1 c2 c3 c4 c5:ah}{x:DataW H×List MemPlace}(h:DataW.trod enc prog w base spare held fuel 37 [c0,c1,c2,c3,c4,c5]=some x){b i:Nat}
  (h0:w.cell? (ak b i)=some c0) (h1:w.cell? (ak b (i+1))=some c1) (h2:w.cell? (ak b (i+2))=some c2) (h3:w.cell? (ak b (i+3))=some c3) (h4:w.cell? (ak b (i+4))=some c4) (h5:w.cell? (ak b (i+5))=some c5):∃y,EdQ w b i y:=by
 obtain⟨_,_,_,_,_,_,n,f0,f1,f2,f3,f4,f5⟩:=Yb underlying37 h;simp only[Az,a4K] at f0 f1 f2 f3 f4 f5;obtain⟨s0,rfl,l0⟩:=mY f0;obtain⟨k1,rfl,w1⟩:=Cq f1;obtain⟨k2,rfl,w2⟩:=Cq f2;obtain⟨k3,rfl,w3⟩:=Cq f3;obtain⟨s4,rfl,l4⟩:=mY f4;obtain⟨s5,rfl,l5⟩:=mY f5;exact⟨⟨s0,k1,k2,k3,s4,s5⟩,h0,h1,h2,h3,h4,h5,w1,w2,w3,l0,l4,l5⟩
theorem Yc {fuel:Nat}{cs:List ah}{x:DataW H×List MemPlace}(h:DataW.trod enc prog w base spare held fuel 26 cs=some x):∃v l,cs=[v]/\a8V w v l:=by
 rcases DataW.trod_slice underlying26 h with⟨rfl,_⟩|⟨a,len,cap,elems,rest,n,_,rfl,_,_,hl,hc,hlen,hel,_⟩
 ·exact⟨_,[],rfl,none,0,rfl,fun i x hx=>by simp at hx⟩
 ·simp only[a1h] at hel;have sp:0<len->a.spot=none:=fun h0=>by
   have h00:=hel 0 h0;obtain⟨y0,hy0⟩:∃y,elems[0]? =some y:=⟨elems[0],List.getElem?_eq_getElem (by omega)⟩;rw[hy0] at h00;simp only[Option.bind_eq_some_iff] at h00;obtain⟨_,hd1,_⟩:=h00;obtain⟨_,_,_,_,_,_,_,_,hb,_⟩:=F6 hd1;simp[Addr.add] at hb;rw[hb]
  obtain⟨l,hll,hP⟩:=zh (α:=Ed) (P:=fun i x=>∃b off,some a=some ⟨b,off,none⟩/\EdQ w b (off+i*6) x) len (fun i hi=>by
   have hE:=hel i hi;obtain⟨y,hy⟩:∃y,elems[i]? =some y:=⟨elems[i],List.getElem?_eq_getElem (by omega)⟩;rw[hy] at hE;simp only[Option.bind_eq_some_iff] at hE;obtain⟨c,hc1,hc2⟩:=hE;obtain⟨b,off,d0,d1,d2,d3,d4,d5,hb,rfl,h0,h1,h2,h3,h4,h5⟩:=F6 hc1;obtain⟨y,hyc⟩:=a1i hc2 h0 h1 h2 h3 h4 h5;have hs:=sp (by omega);obtain⟨ab,ao,asp⟩:=a;simp at hs;subst hs;have e:b=ab/\off=ao+i*6:=by
    unfold Addr.add at hb;split at hb<;>simp at hb<;>exact⟨hb.1.symm,by omega⟩
   obtain⟨rfl,rfl⟩:=e;exact⟨y,_,ao,rfl,hyc⟩)
  exact⟨_,l,rfl,some a,cap,by rw[hll],hP⟩
end
end
section
open Go.RowKit
set_option maxRecDepth 20000
def shE (x:Ed):Prop:=x.nm.length<=60/\x.vl.length<=300
def YL (l:List Ed)(most:Nat):Bool:=decide (most<l.length)||l.any fun x=>decide (60<x.nm.length)||decide (300<x.vl.length)
theorem a4L {l:List Ed}{most:Nat}(h:YL l most=false):l.length<=most/\∀x∈l,shE x:=by
 unfold YL at h;rw[Bool.or_eq_false_iff] at h;refine⟨by simpa using h.1,fun x hx=>?_⟩;have:=List.any_eq_false.1 h.2 x hx;simp at this;exact this
theorem a1k {l:List Ed}{most:Nat}{x:Ed}(hx:x∈l)(h:¬shE x):YL l most=true:=by
 unfold YL;rw[Bool.or_eq_true];refine .inr (List.any_eq_true.2 ⟨x,hx,?_⟩);unfold shE at h;simp only[Bool.or_eq_true,decide_eq_true_eq];omega
theorem DI (l:List Ed)(o:Option Addr)(cap:Nat)(w:ag)(h:vW w o l)(most:Nat)(hm:most<=1000):
  ax 8 #[.slice o l.length cap,aa most] w fun e W=>e=.returned (.bool (YL l most))/\w=W:=by
 by_cases h8:most<l.length
 ·have h8':(most:Int)<(l.length:Int):=by omega
  have hR:YL l most=true:=by unfold YL;simp[h8]
  rw[hR];go_enter func8,ntmps8;go_wp2;go_ret;exact⟨rfl,rfl⟩
 have h8':¬(most:Int)<(l.length:Int):=by omega
 obtain⟨bo,hbo⟩:∃b,YL l most=b:=⟨_,rfl⟩;have HB:=aj hbo;rw[hbo];clear hbo;go_enter func8,ntmps8;go_wp2
 go_loopw [5] (fun i wr=>∃k:Nat,k<=l.length/\i=aa k/\(∀x∈l.take k,shE x)/\wr=w) (fun i _=>l.length-(intOf i).toNat)
 case atStart=>exact⟨0,Nat.zero_le _,rfl,(fun a ha=>by simp at ha),rfl⟩
 case round=>
  obtain⟨k,hk,rfl,hrt,hw⟩:=hrel;rw[hw];by_cases hlt:k<l.length
  ·have hlt':(k:Int)<(l.length:Int):=by omega
   obtain⟨x,hx⟩:∃x,l[k]? =some x:=⟨_,List.getElem?_eq_getElem hlt⟩;obtain⟨b,off,rfl,q⟩:=h k x hx;have c4:w.cell? (ak b (off+k*6+4))=some (.string ⟨x.nm.toArray⟩):=q.c4;have c5:w.cell? (ak b (off+k*6+5))=some (.string ⟨x.vl.toArray⟩):=q.c5;have s4:=dS x.nm;have s5:=dS x.vl;have HX:=aj hx;have HY:Hid (¬shE x->bo=true):=fun hn=>HB.out.symm.trans (a1k (List.mem_of_getElem? hx) hn);clear hx hw q;by_cases g1:60<x.nm.length
   ·have g1':60<(x.nm.length:Int):=by omega
    go_wp2_with fail;go_ret;exact⟨by rw[HY.out (fun hs=>by have:=hs.1;omega)];rfl,rfl⟩
   have g1':¬60<(x.nm.length:Int):=by omega
   by_cases g2:300<x.vl.length
   ·have g2':300<(x.vl.length:Int):=by omega
    go_wp2_with fail;go_ret;exact⟨by rw[HY.out (fun hs=>by have:=hs.2;omega)];rfl,rfl⟩
   have g2':¬300<(x.vl.length:Int):=by omega
   go_wp2_with fail
   go_roundw
   case rel=>exact⟨k+1,by omega,by go_num,fun y hy=>by rw[List.take_add_one,HX.out] at hy;rcases List.mem_append.1 hy with hy|hy;exact hrt y hy;simp at hy;subst hy;exact⟨by omega,by omega⟩,by simp⟩
   case measure=>simp[intOf];omega
  ·obtain rfl:k=l.length:=by omega
   go_wp2_with fail;go_ret;rw[List.take_length] at hrt;have hbf:bo=false:=by
    cases bo with
    |false=>rfl
    |true=>
     exfalso;have h1:=HB.out;unfold YL at h1;rw[Bool.or_eq_true] at h1;rcases h1 with h1|h1
     ·simp at h1;omega
     ·obtain⟨x,hx,h2⟩:=List.any_eq_true.1 h1;have:=hrt x hx;unfold shE at this;simp only[Bool.or_eq_true,decide_eq_true_eq] at h2;omega
   exact⟨by rw[hbf];rfl,rfl⟩
theorem a8W {w:ag}{b:Nat}{a0 a1 a2 a3 a4 a5:ah}{t:TypeId}(h:w.heap[b]? =some (.cells #[a0,a1,a2,a3,a4,a5] t))(u0 u1 u2 u3 u4 u5:ah):((((((w.setCell ⟨b,0,none⟩ u0).setCell ⟨b,1,none⟩ u1).setCell ⟨b,2,none⟩ u2).setCell ⟨b,3,none⟩ u3).setCell ⟨b,4,none⟩ u4).setCell ⟨b,5,none⟩ u5).heap[b]? =some (.cells #[u0,u1,u2,u3,u4,u5] t):=by
 have h1:=heap_setCell_same _ b 5 _ _ u5 (heap_setCell_same _ b 4 _ _ u4 (heap_setCell_same _ b 3 _ _ u3 (heap_setCell_same _ b 2 _ _ u2 (heap_setCell_same _ b 1 _ _ u1 (heap_setCell_same w b 0 _ _ u0 h)))));rw[h1];rfl
theorem Cr (x:Ed)(W:ag):
  ax 12 #[.agg (iF x)] W fun e w'=>e=.returned (.agg (iF x))/\Below W.heap.size W w':=by
 have b0:=di W (.cells (iF x) 37);obtain⟨c0,c1,c2,c3,c4,c5⟩:=NZ.of (cZ W (iF x) 37);go_enter func12,ntmps12;go_upto_region 1 with fail;obtain⟨V,hV⟩:∃V,W.alloc (.cells (iF x) 37)=V:=⟨_,rfl⟩;have hs:V.heap.size=W.heap.size+1:=by rw[<- hV];exact World.size_alloc _ _
 have b1:=di V (.cells #[.string ⟨#[]⟩,aa 0,aa 0,aa 0,.string ⟨#[]⟩,.string ⟨#[]⟩] 45);have k1:=cZ V #[.string ⟨#[]⟩,aa 0,aa 0,aa 0,.string ⟨#[]⟩,.string ⟨#[]⟩] 45;rw[hs] at k1;rw[hV] at b0 c0 c1 c2 c3 c4 c5⊢;obtain⟨X,hX⟩:∃X,V.alloc (.cells #[.string ⟨#[]⟩,aa 0,aa 0,aa 0,.string ⟨#[]⟩,.string ⟨#[]⟩] 45)=X:=⟨_,rfl⟩;obtain⟨RB,hRB⟩:∃b,W.heap.size+1=b:=⟨_,rfl⟩;rw[hX] at b1 k1;have hgX:V.alloc (.cells #[.string ByteArray.empty,aa 0,aa 0,aa 0,.string ByteArray.empty,.string ByteArray.empty] 45)=X:=hX
 first|rw[hX]|rw[hgX]
 rw[hRB] at k1⊢;have hle:W.heap.size<=RB:=by omega
 have bX:=aG b0 b1;have d0:=(b1.cell (az c0)).trans c0;have d1:=(b1.cell (az c1)).trans c1;have d2:=(b1.cell (az c2)).trans c2;have d3:=(b1.cell (az c3)).trans c3;have d4:=(b1.cell (az c4)).trans c4;have d5:=(b1.cell (az c5)).trans c5;clear c0 c1 c2 c3 c4 c5 b0 b1 hX hgX hV hs hRB;have z0:=aF k1 0 _ rfl;have z1:=aF k1 1 _ rfl;have z2:=aF k1 2 _ rfl;have z3:=aF k1 3 _ rfl;have z4:=aF k1 4 _ rfl;have z5:=aF k1 5 _ rfl;have f0:=cO k1 0;have f1:=cO k1 1;have f2:=cO k1 2;have f3:=cO k1 3;have f4:=cO k1 4;have f5:=cO k1 5;go_wp2_with fail;have r:=a8W k1 (.string ⟨x.kd.toArray⟩) (aa x.n) (aa x.m) (aa x.ea) (.string ⟨x.nm.toArray⟩) (.string ⟨x.vl.toArray⟩);have r0:=aF r 0 _ rfl;have r1:=aF r 1 _ rfl;have r2:=aF r 2 _ rfl;have r3:=aF r 3 _ rfl;have r4:=aF r 4 _ rfl;have r5:=aF r 5 _ rfl;refine bodyPost_ret (v:=.agg (iF x)) (by simp[results,results12,go_sem,r0,r1,r2,r3,r4,r5]) rfl ⟨rfl,?_⟩;exact Below.setCell (Below.setCell (Below.setCell (Below.setCell (Below.setCell (Below.setCell bX hle _) hle _) hle _) hle _) hle _) hle _
end
end Go.Proofs.YtjfiehbcamfdfaaGreatDoor

/- Parts of the proof. -/
import Derived.Test.YtjfiehbcamfdfaaGreatDoorQz24
namespace Go.Proofs.YtjfiehbcamfdfaaGreatDoor
open Go.Proofs.Tryz
set_option maxHeartbeats 16000000
section
open Go.RowKit Go.Shelf
theorem a0B {w:ag}{b:Nat}{a:Option Addr}{n c:Nat}{t:TypeId}{u:ah}{o:Option Addr}{l:List Qt}(hk:w.heap[b]? =some (.cells #[.slice a n c] t))(h:eO w o l):eO (w.setCell ⟨b,0,none⟩ u) o l:=fun i x hx=>by
 obtain⟨b',off,h1,h2⟩:=h i x hx;obtain⟨c0,c1,c2,c3,hp⟩:=h2;have hne:b≠b':=by
  rintro rfl;simp only[World.cell?,hk] at c0;have hi:off+i*4<(#[Value.slice a n c]:Array ah).size:=(Array.getElem?_eq_some_iff.1 c0).1;have h0:off+i*4=0:=by simpa using hi
  rw[h0] at c0;simp at c0
 have F:=fun(k:Nat)=>World.cell?_setCell_far w ⟨b,0,none⟩ ⟨b',k,none⟩ u hne;exact⟨b',off,h1,(F _).trans c0,(F _).trans c1,(F _).trans c2,(F _).trans c3,hp⟩
theorem lu.far {E:Nat->Addr}{x:Except Nat (List Qt)}{e:Ending}{w:ag}{b:Nat}{a:Option Addr}{n c:Nat}{t:TypeId}{u:ah}(h:lu E x e w)(hk:w.heap[b]? =some (.cells #[.slice a n c] t)):lu E x e (w.setCell ⟨b,0,none⟩ u):=by
 cases x with
 |error k=>
  obtain⟨v,h1,h2⟩:=h;exact⟨v,h1,h2.far⟩
 |ok l=>
  obtain⟨h0,h1,o,cap,h2,h3⟩:=h;exact⟨h0,h1,o,cap,h2,a0B hk h3⟩
theorem lu.is {E:Nat->Addr}{x:Except Nat (List Qt)}{e:Ending}{w:ag}(h:lu E x e w):∃o n c v,e=.returned (.tuple #[.agg #[.slice o n c],v]):=by
 cases x with
 |error k=>obtain⟨v,h1, -⟩:=h;exact⟨_,_,_,_,h1⟩
 |ok l=>obtain⟨-, -,o,cap,h1, -⟩:=h;exact⟨_,_,_,_,h1⟩
section
variable {E:Nat->Addr}{B:Nat}{tg:bf}{W:ag}{DB MB:Nat}{p:Int->Option Nat}{M:Dm}{nx c:Nat}
theorem ND (hN:NE E W)(hd:aO B tg W DB MB p M nx c)(hz:SzD M)(WB:Nat)(hw:W.cell? (ak WB 0)=some (ay DB))(n:Int)(hn:bA n):
  ax 141 #[ay WB,aa n] W fun e w'=>lu E (EE M n) e w'/\Below W.heap.size W w':=by
 have b0:=di W (.cells #[.slice none 0 0] 136);have K0:=cZ W #[.slice none 0 0] 136;have AT:=jv (hd.below b0) n hn vF;have hw0:=(b0.cell (aC hw)).trans hw;rw[qK] at AT;have hl:=Ka hz n vF;unfold EE;unfold FU at hl⊢;generalize (yP M n vF).getD []=s at AT hl⊢;generalize (yP M n vF).isSome=bo at AT;have RD:=fun V (hV:NE E V)=>NC hV s (by omega);generalize AZ s=x at RD⊢;have HN:=aj hN;clear hd hN;go_enter func141,ntmps141;go_wp2_with(first|(go_at_call 17;refine AT.mono ?_;rintro e w1 ⟨rfl,b1⟩;have R1:=RD w1 (HN.out.below (aG b0 b1)))|(go_at_call 195;refine R1.mono ?_;rintro e w2 ⟨h2,b2⟩;obtain⟨ro,rn,rc,rv,rfl⟩:=h2.is;have K2:=((aG b1 b2).block _ (aY K0)).trans K0;have u0:=aF K2 0 _ rfl;have uf:=cO K2 0));refine bodyPost_ret (v:=.tuple #[.agg #[.slice ro rn rc],rv]) (by simp[results,results141,go_sem,u0]) rfl ⟨h2.far K2,(aG b0 (aG b1 b2)).setCell ai _⟩
end
end
section
open Go.RowKit Go.Shelf
set_option maxRecDepth 20000
theorem a3X {E:Nat->Addr}(xn xd yn yd wn wd hn hd:Int)(w:ag)(cx0:dz xn xd=0)(cy0:dz yn yd=0)(cw0:dz wn wd=0)(ch0:dz hn hd=0)(hN:NE E w):
  ax 194 #[.agg #[aa xn,aa xd],.agg #[aa yn,aa yd],.agg #[aa wn,aa wd],.agg #[aa hn,aa hd]] w fun e W=>lu E (nS ⟨xn,xd,0⟩ ⟨yn,yd,0⟩ ⟨wn,wd,0⟩ ⟨hn,hd,0⟩) e W/\Below w.heap.size w W:=by
 obtain⟨hx1,hx2⟩:=fZ cx0;obtain⟨hy1,hy2⟩:=fZ cy0;obtain⟨hw1,hw2⟩:=fZ cw0;obtain⟨Ac,hh2⟩:=fZ ch0;have Te:=aj hN;have hE:=hN.e3;have HC4:Hid (dz xn xd=0/\dz yn yd=0/\dz wn wd=0/\dz hn hd=0):=⟨cx0,cy0,cw0,ch0⟩;obtain⟨ans,ny⟩:∃a,nS ⟨xn,xd,0⟩ ⟨yn,yd,0⟩ ⟨wn,wd,0⟩ ⟨hn,hd,0⟩=a:=⟨_,rfl⟩;rw[ny];have HAN:=aj ny;clear hN cx0 cy0 cw0 ch0 ny;go_enter func194,ntmps194;go_wp2;obtain⟨U,hU⟩:∃U,(((((w.alloc (.cells #[aa xn,aa xd] 127)).alloc (.cells #[aa yn,aa yd] 127)).alloc (.cells #[aa wn,aa wd] 127)).alloc (.cells #[aa hn,aa hd] 127)).alloc (.cells #[.slice none 0 0] 136)).alloc (.cells #[aa xn,aa xd,aa yn,aa yd,aa wn,aa wd,aa hn,aa hd] 127)=U:=⟨_,rfl⟩;obtain⟨k0,k1,k2,k3,k4,k5,rV⟩:=a8h w _ _ _ _ _ _ U hU;rw[hU];clear hU;have Lp:=hE.below rV ai;obtain⟨L,hL⟩:∃L:List (Int×Int),L=[(xn,xd),(yn,yd),(wn,wd),(hn,hd)]:=⟨_,rfl⟩;have hLl:L.length=4:=by rw[hL];rfl
 have hLc:∀j n d,L[j]? =some (n,d)->U.cell? ⟨w.heap.size+1+1+1+1+1,j*2,none⟩=some (aa n)/\U.cell? ⟨w.heap.size+1+1+1+1+1,j*2+1,none⟩=some (aa d)/\lI n/\lI d:=fun j n d hj=>by
  rw[hL] at hj
  match j,hj with
  |0,hj=>cases hj;exact⟨aJ k5 0 _ rfl,aJ k5 1 _ rfl,hx1,hx2⟩
  |1,hj=>cases hj;exact⟨aJ k5 2 _ rfl,aJ k5 3 _ rfl,hy1,hy2⟩
  |2,hj=>cases hj;exact⟨aJ k5 4 _ rfl,aJ k5 5 _ rfl,hw1,hw2⟩
  |3,hj=>cases hj;exact⟨aJ k5 6 _ rfl,aJ k5 7 _ rfl,Ac,hh2⟩
  |(j+4),hj=>simp at hj
 have HL:=aj hL;have HLC:Hid _:=hLc;have Nz:=aj hLl;clear hL hLc hLl k5
 go_loopw [22] (fun y wr=>∃k:Nat,k<=4/\y=aa k/\(∀j n d,j<k->L[j]? =some (n,d)->dz n d=0)/\Below U.heap.size U wr) (fun y _=>4-(intOf y).toNat)
 case atStart=>exact⟨0,by omega,rfl,fun j n d hj=>by omega,Below.refl _ _⟩
 case round=>
  obtain⟨k,hk,rfl,hall,hb⟩:=hrel;have HA:=aj hall;clear hall;by_cases hlt:k<4
  ·have hlt':(k:Int)<4:=by omega
   obtain⟨⟨n,d⟩,hnd⟩:∃x,L[k]? =some x:=⟨_,List.getElem?_eq_getElem (by have:=Nz.out;omega)⟩;obtain⟨c0,c1,hn',hd'⟩:=HLC.out k n d hnd;have c0:=(hb.cell (aC c0)).trans c0;have c1:=(hb.cell (aC c1)).trans c1;have HN:=aj hnd;have hbx:=aU wr (.cells #[aa n,aa d] 127);have a8p:=aA hb hbx;have CK:=iq (E 2) (E 3) (E 2) n d (wr.alloc (.cells #[aa n,aa d] 127)) hn' hd' (Lp.below a8p ai);clear hnd;by_cases hc:dz n d=0
   ·rw[hc] at CK;have HC:=aj hc;clear hc;go_wp2_with(go_at_call 132;refine CK.mono ?_;rintro e w1 ⟨rfl,b1⟩;simp only[pO])
    go_roundw
    case rel=>exact⟨k+1,by omega,by go_num,fun j n' d' hj hj2=>by
     rcases Nat.lt_or_ge j k with h|h
     ·exact HA.out j n' d' h hj2
     ·obtain rfl:j=k:=by omega
      have:=HN.out.symm.trans hj2;cases this;exact HC.out,aA a8p b1⟩
    case measure=>simp[intOf];omega
   ·exfalso;apply hc;have h1:=HN.out;rw[HL.out] at h1;obtain⟨q1,q2,q3,q4⟩:=HC4.out
    match k,h1 with
    |0,h1=>cases h1;exact q1
    |1,h1=>cases h1;exact q2
    |2,h1=>cases h1;exact q3
    |3,h1=>cases h1;exact q4
    |(j+4),h1=>simp at h1
  ·obtain rfl:k=4:=by omega
   have h4:=HA.out;rw[HL.out] at h4;have cx:dz xn xd=0:=h4 0 xn xd (by omega) rfl;have cy:dz yn yd=0:=h4 1 yn yd (by omega) rfl;have cw:dz wn wd=0:=h4 2 wn wd (by omega) rfl;have ch:dz hn hd=0:=h4 3 hn hd (by omega) rfl;clear h4 HA;have hEr:=Lp.below hb ai;have lt:=fun{b:Nat} {o:Obj} (h:U.heap[b]? =some o)=>(Array.getElem?_eq_some_iff.1 h).1;have j0:=(hb.block _ (lt k0)).trans k0;have j1:=(hb.block _ (lt k1)).trans k1;have j2:=(hb.block _ (lt k2)).trans k2;have j3:=(hb.block _ (lt k3)).trans k3;have j4:=(hb.block _ (lt k4)).trans k4;have bWr:=aA rV hb;clear lt k0 k1 k2 k3 k4 HL HLC Nz;have AX:=zH (E 2) (E 3) (E 2) xn xd wn wd wr hx1 hx2 hw1 hw2 hEr;have a0:=aJ j0 0 _ rfl;have a1:=aJ j0 1 _ rfl;have a2:=aJ j2 0 _ rfl;have a3:=aJ j2 1 _ rfl;obtain⟨Xn,Xd,c,hadd⟩:∃n d c,add xn xd wn wd=⟨n,d,c⟩:=⟨_,_,_,rfl⟩;rw[hadd] at AX;have HX:=aj hadd;clear hadd;go_upto_region 9 with(go_at_call 233;refine AX.mono ?_;rintro e w1 ⟨rfl,b1⟩);have hc1:=a2c cx cw;rw[HX.out] at hc1;have hc1:c=0\/c=2:=hc1;have b2:=aU w1 (.cells #[aa Xn,aa Xd] 127);have kX:=World.alloc_heap_new w1 (.cells #[aa Xn,aa Xd] 127);obtain⟨V,hV⟩:∃V,w1.alloc (.cells #[aa Xn,aa Xd] 127)=V:=⟨_,rfl⟩;obtain⟨BX,hBX⟩:∃B,w1.heap.size=B:=⟨_,rfl⟩;rw[hV] at b2 kX⊢;have bV:=aA b1 b2;rw[hBX] at kX⊢;clear hV hBX b2 b1 AX a0 a1 a2 a3;have lt:=fun{b:Nat} {o:Obj} (h:wr.heap[b]? =some o)=>(Array.getElem?_eq_some_iff.1 h).1;have j0:=(bV.block _ (lt j0)).trans j0;have j1:=(bV.block _ (lt j1)).trans j1;have j3:=(bV.block _ (lt j3)).trans j3;have j4:=(bV.block _ (lt j4)).trans j4;have bWV:=aA bWr bV;have hEV:=hEr.below bV ai;clear lt;have f4:=cO j4 0;have q4:=aJ j4 0 _ rfl;rcases hc1 with rfl|rfl
   ·simp only[pO];have AY:=zH (E 2) (E 3) (E 2) yn yd hn hd V hy1 hy2 Ac hh2 hEV;obtain⟨Yn,Yd,c,hadd⟩:∃n d c,add yn yd hn hd=⟨n,d,c⟩:=⟨_,_,_,rfl⟩;rw[hadd] at AY;have HY:=aj hadd;clear hadd;have a0:=aJ j1 0 _ rfl;have a1:=aJ j1 1 _ rfl;have a2:=aJ j3 0 _ rfl;have a3:=aJ j3 1 _ rfl;go_upto_region 12 with(go_at_call 233;refine AY.mono ?_;rintro e w2 ⟨rfl,b3⟩);have hc2:=a2c cy ch;rw[HY.out] at hc2;have hc2:c=0\/c=2:=hc2;have b4:=aU w2 (.cells #[aa Yn,aa Yd] 127);have kY:=World.alloc_heap_new w2 (.cells #[aa Yn,aa Yd] 127);obtain⟨V2,hV2⟩:∃V,w2.alloc (.cells #[aa Yn,aa Yd] 127)=V:=⟨_,rfl⟩;obtain⟨BY,hBY⟩:∃B,w2.heap.size=B:=⟨_,rfl⟩;rw[hV2] at b4 kY⊢;have bV2:=aA b3 b4;rw[hBY] at kY⊢;clear hV2 hBY b4 b3 AY a0 a1 a2 a3 q4 f4;have lt:=fun{b:Nat} {o:Obj} (h:V.heap[b]? =some o)=>(Array.getElem?_eq_some_iff.1 h).1;have j0:=(bV2.block _ (lt j0)).trans j0;have j1:=(bV2.block _ (lt j1)).trans j1;have j4:=(bV2.block _ (lt j4)).trans j4;have kX:=(bV2.block _ (lt kX)).trans kX;have a3Y:=aA bWV bV2;have aki:=hEV.below bV2 ai;clear lt;rcases hc2 with rfl|rfl
    ·simp only[pO];have cX:=(zC.1 HX.out).2.2.1;have cY:=(zC.1 HY.out).2.2.1;have iX:=fZ cX;have iY:=fZ cY;have x0:=aJ j0 0 _ rfl;have x1:=aJ j0 1 _ rfl;have y0:=aJ j1 0 _ rfl;have y1:=aJ j1 1 _ rfl;have X0:=aJ kX 0 _ rfl;have X1:=aJ kX 1 _ rfl;have Y0:=aJ kY 0 _ rfl;have Y1:=aJ kY 1 _ rfl;have b5:=aU V2 (.cells #[aa xn,aa xd,aa yn,aa yd,aa Xn,aa Xd,aa yn,aa yd,aa Xn,aa Xd,aa Yn,aa Yd,aa xn,aa xd,aa Yn,aa Yd] 177);have kL:=World.alloc_heap_new V2 (.cells #[aa xn,aa xd,aa yn,aa yd,aa Xn,aa Xd,aa yn,aa yd,aa Xn,aa Xd,aa Yn,aa Yd,aa xn,aa xd,aa Yn,aa Yd] 177);have hP:=Uz (a0:=⟨xn,xd,yn,yd⟩) (a1:=⟨Xn,Xd,yn,yd⟩) (a2:=⟨Xn,Xd,Yn,Yd⟩) (a3:=⟨xn,xd,Yn,Yd⟩) kL ⟨hx1,hx2,hy1,hy2⟩ ⟨iX.1,iX.2,hy1,hy2⟩ ⟨iX.1,iX.2,iY.1,iY.2⟩ ⟨hx1,hx2,iY.1,iY.2⟩;have hR4:∀y∈LV xn xd yn yd Xn Xd Yn Yd,eY y=0:=fun y hy=>by
      simp only[LV,List.mem_cons,List.not_mem_nil,or_false] at hy;rcases hy with rfl|rfl|rfl|rfl
      ·exact fE.2 ⟨cx,cy⟩
      ·exact fE.2 ⟨cX,cy⟩
      ·exact fE.2 ⟨cX,cY⟩
      ·exact fE.2 ⟨cx,cY⟩
     have CK:=BI (LV xn xd yn yd Xn Xd Yn Yd) hR4 (some ⟨V2.heap.size,0,none⟩) 4 _ hP (Te.out.below (aA a3Y b5));have HR4:=aj hR4;clear hR4;have j4':=(b5.block _ (Array.getElem?_eq_some_iff.1 j4).1).trans j4;go_wp2_with(go_at_call 234;refine CK.mono ?_;rintro e w3 ⟨hck,b6⟩;have a8q:=(b6.block _ (Array.getElem?_eq_some_iff.1 j4').1).trans j4';have q4:=aJ a8q 0 _ rfl;have f4:=cO a8q 0;obtain⟨os,ns,cs,v,rfl,hsv⟩:∃os ns cs v,e=.returned (.tuple #[.agg #[.slice os ns cs],v])/\((okB (LV xn xd yn yd Xn Xd Yn Yd)=true/\os=some ⟨V2.heap.size,0,none⟩/\ns=4/\cs=4/\v=.nilIface)\/(okB (LV xn xd yn yd Xn Xd Yn Yd)=false/\os=none/\ns=0/\cs=0/\Lu E 2 v w3)):=(by rcases hck with⟨h1,rfl⟩|⟨h1,v,rfl,h2⟩;exact⟨_,_,_,_,rfl,.inl ⟨h1,rfl,rfl,rfl,rfl⟩⟩;exact⟨_,_,_,_,rfl,.inr ⟨h1,rfl,rfl,rfl,h2⟩⟩));have d4:(w3.setCell ⟨w.heap.size+1+1+1+1,0,none⟩ (.slice os ns cs)).cell? ⟨w.heap.size+1+1+1+1,0,none⟩=some (.slice os ns cs):=World.cell?_setCell_same' _ _ _ (by rw[q4];rfl);have bz:=aA (aA a3Y b5) b6;refine bodyPost_ret (v:=.tuple #[.agg #[.slice os ns cs],v]) (by simp[results,results194,go_sem,d4]) rfl ⟨?_,bz.setCell (by simp;omega) _⟩;rcases hsv with⟨hok,rfl,rfl,rfl,rfl⟩|⟨hok,rfl,rfl,rfl,hv⟩
     ·rw[<- HAN.out];unfold nS;simp only[HX.out,HY.out,hok,and_self,if_true];refine⟨HR4.out,hok,_,_,rfl,?_⟩;have hP3:=hP.below b6 ai;have hne:V2.heap.size≠w.heap.size+1+1+1+1:=by have:=(Array.getElem?_eq_some_iff.1 j4).1;omega
      intro i a ha;obtain⟨b,off,h1,c0,c1,c2,c3,hpi⟩:=hP3 i a ha;cases h1;have far:∀k v,w3.cell? ⟨V2.heap.size,k,none⟩=some v->(w3.setCell ⟨w.heap.size+1+1+1+1,0,none⟩ (.slice (some ⟨V2.heap.size,0,none⟩) 4 4)).cell? ⟨V2.heap.size,k,none⟩=some v:=fun k v hv=>by
       rw[World.cell?_setCell_far _ _ _ _ (by simp;exact fun e=>hne e.symm)];exact hv
      exact⟨_,0,rfl,far _ _ c0,far _ _ c1,far _ _ c2,far _ _ c3,hpi⟩
     ·rw[<- HAN.out];unfold nS;simp only[HX.out,HY.out,hok,and_false,if_false,Bool.false_eq_true];exact⟨v,rfl,hv.far⟩
    ·have e2:er (E 2) (E 3) (E 2) 2=.iface 390 (.pointer (some (E 2))):=rfl;simp only[e2];have f4:=cO j4 0;have q4:=aJ j4 0 _ rfl;have d4:(V2.setCell ⟨w.heap.size+1+1+1+1,0,none⟩ (.slice none 0 0)).cell? ⟨w.heap.size+1+1+1+1,0,none⟩=some (.slice none 0 0):=World.cell?_setCell_same' _ _ _ (by rw[q4];rfl);go_wp2_with fail;exact bodyPost_ret (v:=.tuple #[.agg #[.slice none 0 0],.iface 390 (.pointer (some (E 2)))]) (by simp[results,results194,go_sem,d4]) rfl ⟨by rw[<- HAN.out];unfold nS;rw[if_neg (by rw[HY.out];simp)];exact⟨_,rfl,by decide,by decide,.inl rfl⟩,a3Y.setCell (by simp;omega) _⟩
   ·have e2:er (E 2) (E 3) (E 2) 2=.iface 390 (.pointer (some (E 2))):=rfl;simp only[e2];have f4:=cO j4 0;have q4:=aJ j4 0 _ rfl;have d4:(V.setCell ⟨w.heap.size+1+1+1+1,0,none⟩ (.slice none 0 0)).cell? ⟨w.heap.size+1+1+1+1,0,none⟩=some (.slice none 0 0):=World.cell?_setCell_same' _ _ _ (by rw[q4];rfl);go_wp2_with fail;exact bodyPost_ret (v:=.tuple #[.agg #[.slice none 0 0],.iface 390 (.pointer (some (E 2)))]) (by simp[results,results194,go_sem,d4]) rfl ⟨by rw[<- HAN.out];unfold nS;rw[if_neg (by rw[HX.out];simp)];exact⟨_,rfl,by decide,by decide,.inl rfl⟩,bWV.setCell (by simp;omega) _⟩
theorem dH.a8r {w:ag}{R:Nat}{cs:Array ah}{t:TypeId}(h:dH w R cs t)(i:Nat)(v:ah):dH (w.setCell ⟨R,i,none⟩ v) R (cs.setIfInBounds i v) t:=⟨heap_setCell_same w R i cs t v h.h⟩
theorem dH.a0C {w:ag}{R:Nat}{cs:Array ah}{t:TypeId}(h:dH w R cs t)(i:Nat)(a b:ah):dH ((w.setCell ⟨R,i,none⟩ a).setCell ⟨R,i+1,none⟩ b) R ((cs.setIfInBounds i a).setIfInBounds (i+1) b) t:=(h.a8r i a).a8r (i+1) b
theorem rD (M:Dm)(n:Int)(nm:Bs)(h:(eP M n nm).c=0):dz (eP M n nm).n (eP M n nm).d=0:=by
 unfold eP at h⊢;cases ha:yP M n nm with
 |none=>exact Ta (by decide) (by decide)
 |some s=>rw[ha] at h;exact OZ h
theorem rE (M:Dm)(n:Int)(nm:Bs):(eP M n nm).c=0\/(eP M n nm).c=1\/(eP M n nm).c=2\/(eP M n nm).c=3:=by
 unfold eP;cases ha:yP M n nm with
 |none=>exact .inl rfl
 |some s=>exact Nw s
def xC (fx fy fu fv:R3)(ans:Except Nat (List Qt)):Except Nat (List Qt):=if fx.c≠0 then .error fx.c else if fy.c≠0 then .error fy.c else if fu.c≠0 then .error fu.c else if fv.c≠0 then .error fv.c else ans
section
variable {E:Nat->Addr}{B:Nat}{tg:bf}{W:ag}{DB MB:Nat}{p:Int->Option Nat}{M:Dm}{nx c:Nat}
theorem NF (WB:Nat)(n:Int)(fx fy fu fv:R3)(ans:Except Nat (List Qt))(hN:NE E W)
  (hx:fx.c=0\/fx.c=1\/fx.c=2\/fx.c=3) (hy:fy.c=0\/fy.c=1\/fy.c=2\/fy.c=3) (hu:fu.c=0\/fu.c=1\/fu.c=2\/fu.c=3) (hv:fv.c=0\/fv.c=1\/fv.c=2\/fv.c=3)
  (F0:∀V,Below W.heap.size W V->ax 193 #[ay WB,aa n,.string ⟨#[120]⟩] V fun e w'=>e=.returned (.tuple #[.agg #[aa fx.n,aa fx.d],Lr (E 1) (E 2) (E 3) (E 2) fx.c])/\Below V.heap.size V w')
  (F1:∀V,Below W.heap.size W V->ax 193 #[ay WB,aa n,.string ⟨#[121]⟩] V fun e w'=>e=.returned (.tuple #[.agg #[aa fy.n,aa fy.d],Lr (E 1) (E 2) (E 3) (E 2) fy.c])/\Below V.heap.size V w')
  (F2:∀V,Below W.heap.size W V->ax 193 #[ay WB,aa n,.string ⟨#[119]⟩] V fun e w'=>e=.returned (.tuple #[.agg #[aa fu.n,aa fu.d],Lr (E 1) (E 2) (E 3) (E 2) fu.c])/\Below V.heap.size V w')
  (F3:∀V,Below W.heap.size W V->ax 193 #[ay WB,aa n,.string ⟨#[104]⟩] V fun e w'=>e=.returned (.tuple #[.agg #[aa fv.n,aa fv.d],Lr (E 1) (E 2) (E 3) (E 2) fv.c])/\Below V.heap.size V w')
  (FB:fx.c=0->fy.c=0->fu.c=0->fv.c=0->∀V,NE E V->ax 194 #[.agg #[aa fx.n,aa fx.d],.agg #[aa fy.n,aa fy.d],.agg #[aa fu.n,aa fu.d],.agg #[aa fv.n,aa fv.d]] V fun e w'=>lu E ans e w'/\Below V.heap.size V w'):
  ax 140 #[ay WB,aa n] W fun e w'=>lu E (xC fx fy fu fv ans) e w'/\Below W.heap.size W w':=by
 have b0:=di W (.cells #[.slice none 0 0] 136);have K0:=cZ W #[.slice none 0 0] 136;have b1:=di (W.alloc (.cells #[.slice none 0 0] 136)) (.cells #[aa 0,aa 0,aa 0,aa 0,aa 0,aa 0,aa 0,aa 0] 269);have S0:=dH.new (W.alloc (.cells #[.slice none 0 0] 136)) #[aa 0,aa 0,aa 0,aa 0,aa 0,aa 0,aa 0,aa 0] 269;have K1:=(b1.block _ (aY K0)).trans K0;have bV:=aG b0 b1;have hsz:(W.alloc (.cells #[.slice none 0 0] 136)).heap.size=W.heap.size+1:=by simp
 rw[hsz] at S0;clear hsz b0 b1 K0;have HN:=aj hN;clear hN;go_enter func140,ntmps140;go_upto_region 3 with fail;obtain⟨V0,Wl⟩:∃V,(W.alloc (.cells #[.slice none 0 0] 136)).alloc (.cells #[aa 0,aa 0,aa 0,aa 0,aa 0,aa 0,aa 0,aa 0] 269)=V:=⟨_,rfl⟩;rw[Wl] at S0 K1 bV⊢;clear Wl;have x0:∀w:ag,(Instr.index 270 (.agg #[.string ⟨#[120]⟩,.string ⟨#[121]⟩,.string ⟨#[119]⟩,.string ⟨#[104]⟩]) (aa 0)).run prog w=.ok (.string ⟨#[120]⟩) w:=fun w=>by kernel_rfl
 have x1:∀w:ag,(Instr.index 270 (.agg #[.string ⟨#[120]⟩,.string ⟨#[121]⟩,.string ⟨#[119]⟩,.string ⟨#[104]⟩]) (aa 1)).run prog w=.ok (.string ⟨#[121]⟩) w:=fun w=>by kernel_rfl
 have x2:∀w:ag,(Instr.index 270 (.agg #[.string ⟨#[120]⟩,.string ⟨#[121]⟩,.string ⟨#[119]⟩,.string ⟨#[104]⟩]) (aa 2)).run prog w=.ok (.string ⟨#[119]⟩) w:=fun w=>by kernel_rfl
 have x3:∀w:ag,(Instr.index 270 (.agg #[.string ⟨#[120]⟩,.string ⟨#[121]⟩,.string ⟨#[119]⟩,.string ⟨#[104]⟩]) (aa 3)).run prog w=.ok (.string ⟨#[104]⟩) w:=fun w=>by kernel_rfl
 refine wp_loop_rounds 5 ?_;rw[rounds_succ];have C0:=F0 V0 bV;by_cases g0:fx.c=0
 rotate_left
 ·have h3:fx.c=1\/fx.c=2\/fx.c=3:=hx.resolve_left g0;rw[xB h3] at C0;have H3:=aj h3;have HA:=aj g0;clear h3;go_wp2_with(go_at_call 193;refine C0.mono ?_;rintro e w1 ⟨rfl,b2⟩;have Kw:=((aG b2 (di w1 (.cells #[aa fx.n,aa fx.d] 127))).block _ (aY K1)).trans K1;have u0:=aF Kw 0 _ rfl;have uf:=cO Kw 0);refine bodyPost_ret (v:=.tuple #[.agg #[.slice none 0 0],eV (E fx.c)]) (by simp[results,results140,go_sem,u0]) rfl ⟨?_,(aG bV (aG b2 (di w1 _))).setCell ai _⟩;unfold xC;rw[if_pos HA.out];exact⟨_,rfl,by have:=H3.out;omega,by have:=H3.out;omega,.inl rfl⟩
 rw[g0,oC] at C0;go_wp2_with(go_at_call 193;refine C0.mono ?_;rintro e w1 ⟨rfl,b2⟩;have b3:=aG b2 (di w1 (.cells #[aa fx.n,aa fx.d] 127));have T1:=(b3.block _ S0.lt).trans S0.h;have u0:=aJ T1 0 _ rfl;have u1:=aJ T1 1 _ rfl;have v0:=cO T1 0;have v1:=cO T1 1);obtain⟨V1,hV1⟩:∃V,(((w1.alloc (.cells #[aa fx.n,aa fx.d] 127)).setCell ⟨W.heap.size+1,0,none⟩ (aa fx.n)).setCell ⟨W.heap.size+1,1,none⟩ (aa fx.d))=V:=⟨_,rfl⟩;have S0:dH V1 (W.heap.size+1) #[aa fx.n,aa fx.d,aa 0,aa 0,aa 0,aa 0,aa 0,aa 0] 269:=by
  rw[<- hV1];exact(dH.mk T1).a0C 0 _ _
 have K1:V1.heap[W.heap.size]? =some (.cells #[.slice none 0 0] 136):=by
  rw[<- hV1,Below.heap_setCell _ _ _ _ (by simp),Below.heap_setCell _ _ _ _ (by simp)];exact(b3.block _ (aY K1)).trans K1
 have bV:Below W.heap.size W V1:=by
  rw[<- hV1];exact((aG bV b3).setCell (by simp) _).setCell (by simp) _
 rw[hV1];clear hV1 T1 u0 u1 v0 v1 b2 b3 C0;rw[rounds_succ];have C1:=F1 V1 bV;by_cases g1:fy.c=0
 rotate_left
 ·have h3:fy.c=1\/fy.c=2\/fy.c=3:=hy.resolve_left g1;rw[xB h3] at C1;have H3:=aj h3;have HA:=aj g1;clear h3;go_wp2_with(go_at_call 193;refine C1.mono ?_;rintro e w1 ⟨rfl,b2⟩;have Kw:=((aG b2 (di w1 (.cells #[aa fy.n,aa fy.d] 127))).block _ (aY K1)).trans K1;have u0:=aF Kw 0 _ rfl;have uf:=cO Kw 0);refine bodyPost_ret (v:=.tuple #[.agg #[.slice none 0 0],eV (E fy.c)]) (by simp[results,results140,go_sem,u0]) rfl ⟨?_,(aG bV (aG b2 (di w1 _))).setCell ai _⟩;unfold xC;rw[if_neg (by simp[g0]),if_pos HA.out];exact⟨_,rfl,by have:=H3.out;omega,by have:=H3.out;omega,.inl rfl⟩
 rw[g1,oC] at C1;go_wp2_with(go_at_call 193;refine C1.mono ?_;rintro e w1 ⟨rfl,b2⟩;have b3:=aG b2 (di w1 (.cells #[aa fy.n,aa fy.d] 127));have T1:=(b3.block _ S0.lt).trans S0.h;have u0:=aJ T1 2 _ rfl;have u1:=aJ T1 3 _ rfl;have v0:=cO T1 2;have v1:=cO T1 3);obtain⟨V2,hV2⟩:∃V,(((w1.alloc (.cells #[aa fy.n,aa fy.d] 127)).setCell ⟨W.heap.size+1,2,none⟩ (aa fy.n)).setCell ⟨W.heap.size+1,3,none⟩ (aa fy.d))=V:=⟨_,rfl⟩;have S0:dH V2 (W.heap.size+1) #[aa fx.n,aa fx.d,aa fy.n,aa fy.d,aa 0,aa 0,aa 0,aa 0] 269:=by
  rw[<- hV2];exact(dH.mk T1).a0C 2 _ _
 have K1:V2.heap[W.heap.size]? =some (.cells #[.slice none 0 0] 136):=by
  rw[<- hV2,Below.heap_setCell _ _ _ _ (by simp),Below.heap_setCell _ _ _ _ (by simp)];exact(b3.block _ (aY K1)).trans K1
 have bV:Below W.heap.size W V2:=by
  rw[<- hV2];exact((aG bV b3).setCell (by simp) _).setCell (by simp) _
 rw[hV2];clear hV2 T1 u0 u1 v0 v1 b2 b3 C1;rw[rounds_succ];have C2:=F2 V2 bV;by_cases g2:fu.c=0
 rotate_left
 ·have h3:fu.c=1\/fu.c=2\/fu.c=3:=hu.resolve_left g2;rw[xB h3] at C2;have H3:=aj h3;have HA:=aj g2;clear h3;go_wp2_with(go_at_call 193;refine C2.mono ?_;rintro e w1 ⟨rfl,b2⟩;have Kw:=((aG b2 (di w1 (.cells #[aa fu.n,aa fu.d] 127))).block _ (aY K1)).trans K1;have u0:=aF Kw 0 _ rfl;have uf:=cO Kw 0);refine bodyPost_ret (v:=.tuple #[.agg #[.slice none 0 0],eV (E fu.c)]) (by simp[results,results140,go_sem,u0]) rfl ⟨?_,(aG bV (aG b2 (di w1 _))).setCell ai _⟩;unfold xC;rw[if_neg (by simp[g0]),if_neg (by simp[g1]),if_pos HA.out];exact⟨_,rfl,by have:=H3.out;omega,by have:=H3.out;omega,.inl rfl⟩
 rw[g2,oC] at C2;go_wp2_with(go_at_call 193;refine C2.mono ?_;rintro e w1 ⟨rfl,b2⟩;have b3:=aG b2 (di w1 (.cells #[aa fu.n,aa fu.d] 127));have T1:=(b3.block _ S0.lt).trans S0.h;have u0:=aJ T1 4 _ rfl;have u1:=aJ T1 5 _ rfl;have v0:=cO T1 4;have v1:=cO T1 5);obtain⟨V3,JO⟩:∃V,(((w1.alloc (.cells #[aa fu.n,aa fu.d] 127)).setCell ⟨W.heap.size+1,4,none⟩ (aa fu.n)).setCell ⟨W.heap.size+1,5,none⟩ (aa fu.d))=V:=⟨_,rfl⟩;have S0:dH V3 (W.heap.size+1) #[aa fx.n,aa fx.d,aa fy.n,aa fy.d,aa fu.n,aa fu.d,aa 0,aa 0] 269:=by
  rw[<- JO];exact(dH.mk T1).a0C 4 _ _
 have K1:V3.heap[W.heap.size]? =some (.cells #[.slice none 0 0] 136):=by
  rw[<- JO,Below.heap_setCell _ _ _ _ (by simp),Below.heap_setCell _ _ _ _ (by simp)];exact(b3.block _ (aY K1)).trans K1
 have bV:Below W.heap.size W V3:=by
  rw[<- JO];exact((aG bV b3).setCell (by simp) _).setCell (by simp) _
 rw[JO];clear JO T1 u0 u1 v0 v1 b2 b3 C2;rw[rounds_succ];have C3:=F3 V3 bV;by_cases g3:fv.c=0
 rotate_left
 ·have h3:fv.c=1\/fv.c=2\/fv.c=3:=hv.resolve_left g3;rw[xB h3] at C3;have H3:=aj h3;have HA:=aj g3;clear h3;go_wp2_with(go_at_call 193;refine C3.mono ?_;rintro e w1 ⟨rfl,b2⟩;have Kw:=((aG b2 (di w1 (.cells #[aa fv.n,aa fv.d] 127))).block _ (aY K1)).trans K1;have u0:=aF Kw 0 _ rfl;have uf:=cO Kw 0);refine bodyPost_ret (v:=.tuple #[.agg #[.slice none 0 0],eV (E fv.c)]) (by simp[results,results140,go_sem,u0]) rfl ⟨?_,(aG bV (aG b2 (di w1 _))).setCell ai _⟩;unfold xC;rw[if_neg (by simp[g0]),if_neg (by simp[g1]),if_neg (by simp[g2]),if_pos HA.out];exact⟨_,rfl,by have:=H3.out;omega,by have:=H3.out;omega,.inl rfl⟩
 rw[g3,oC] at C3;go_wp2_with(go_at_call 193;refine C3.mono ?_;rintro e w1 ⟨rfl,b2⟩;have b3:=aG b2 (di w1 (.cells #[aa fv.n,aa fv.d] 127));have T1:=(b3.block _ S0.lt).trans S0.h;have u0:=aJ T1 6 _ rfl;have u1:=aJ T1 7 _ rfl;have v0:=cO T1 6;have v1:=cO T1 7);obtain⟨V4,hV4⟩:∃V,(((w1.alloc (.cells #[aa fv.n,aa fv.d] 127)).setCell ⟨W.heap.size+1,6,none⟩ (aa fv.n)).setCell ⟨W.heap.size+1,7,none⟩ (aa fv.d))=V:=⟨_,rfl⟩;have S0:dH V4 (W.heap.size+1) #[aa fx.n,aa fx.d,aa fy.n,aa fy.d,aa fu.n,aa fu.d,aa fv.n,aa fv.d] 269:=by
  rw[<- hV4];exact(dH.mk T1).a0C 6 _ _
 have K1:V4.heap[W.heap.size]? =some (.cells #[.slice none 0 0] 136):=by
  rw[<- hV4,Below.heap_setCell _ _ _ _ (by simp),Below.heap_setCell _ _ _ _ (by simp)];exact(b3.block _ (aY K1)).trans K1
 have bV:Below W.heap.size W V4:=by
  rw[<- hV4];exact((aG bV b3).setCell (by simp) _).setCell (by simp) _
 rw[hV4];clear hV4 T1 u0 u1 v0 v1 b2 b3 C3;rw[rounds_succ];have BX:=FB g0 g1 g2 g3 V4 (HN.out.below bV);have s0:=S0.cell 0 _ rfl;have s1:=S0.cell 1 _ rfl;have s2:=S0.cell 2 _ rfl;have s3:=S0.cell 3 _ rfl;have s4:=S0.cell 4 _ rfl;have s5:=S0.cell 5 _ rfl;have s6:=S0.cell 6 _ rfl;have s7:=S0.cell 7 _ rfl;have HG:Hid (fx.c=0/\fy.c=0/\fu.c=0/\fv.c=0):=⟨g0,g1,g2,g3⟩;clear g0 g1 g2 g3;go_wp2_with(go_at_call 194;refine BX.mono ?_;rintro e w2 ⟨h2,b2⟩;obtain⟨ro,rn,rc,rv,rfl⟩:=h2.is;have K2:=(b2.block _ (aY K1)).trans K1;have u0:=aF K2 0 _ rfl;have uf:=cO K2 0);refine bodyPost_ret (v:=.tuple #[.agg #[.slice ro rn rc],rv]) (by simp[results,results140,go_sem,u0]) rfl ⟨?_,(aG bV b2).setCell ai _⟩;obtain⟨g0,g1,g2,g3⟩:=HG.out;unfold xC;rw[if_neg (by simp[g0]),if_neg (by simp[g1]),if_neg (by simp[g2]),if_neg (by simp[g3])];exact h2.far K2
theorem Tf (hN:NE E W)(hd:aO B tg W DB MB p M nx c)(hz:SzD M)(WB:Nat)(hw:W.cell? (ak WB 0)=some (ay DB))(n:Int)(hn:bA n):
  ax 140 #[ay WB,aa n] W fun e w'=>lu E (VZ M n) e w'/\Below W.heap.size W w':=by
 have F:=fun(nm:Bs) V (hV:Below W.heap.size W V)=>Ns (hN.below hV) (hd.below hV) hz WB ((hV.cell (aC hw)).trans hw) n hn nm;exact NF WB n (eP M n [120]) (eP M n [121]) (eP M n [119]) (eP M n [104]) (nS (eP M n [120]) (eP M n [121]) (eP M n [119]) (eP M n [104])) hN (rE _ _ _) (rE _ _ _) (rE _ _ _) (rE _ _ _) (F [120]) (F [121]) (F [119]) (F [104])
  (fun h0 h1 h2 h3 V hV=>a3X _ _ _ _ _ _ _ _ V (rD _ _ _ h0) (rD _ _ _ h1) (rD _ _ _ h2) (rD _ _ _ h3) hV)
end
def Ti (E:Nat->Addr)(m:Mv)(l:List Qt)(base:Nat)(e:Ending)(w':ag):Prop:=match Uk m l with
 |some l'=>∃v,e=.returned (.tuple #[.agg #[v],.nilIface])/\gU w' base v l'
 |none=>∃v,e=.returned (.tuple #[.agg #[.slice none 0 0],v])/\Lu E 2 v w'
theorem Xv {E:Nat->Addr}{m:Mv}{l:List Qt}{base:Nat}{w':ag}{a:Qt}{v:ah}(ha:a∈l)(hn:xq m a=false)(hv:Lu E 2 v w'):Ti E m l base (.returned (.tuple #[.agg #[.slice none 0 0],v])) w':=by
 unfold Ti Uk;rw[if_neg (fun h=>by have:=List.all_eq_true.1 h a ha;rw[hn] at this;cases this)];exact⟨v,rfl,hv⟩
theorem a0D {E:Nat->Addr}{m:Mv}{l:List Qt}{base:Nat}{w':ag}{v:ah}(h:∀a∈l,xq m a=true)(hv:gU w' base v (l.map (FV m))):Ti E m l base (.returned (.tuple #[.agg #[v],.nilIface])) w':=by
 unfold Ti Uk;rw[if_pos (List.all_eq_true.2 h)];exact⟨v,rfl,hv⟩
theorem BJ {a:Qt}(h:gH a=0):(Ny a).ok:=by
 obtain⟨h1, -⟩:=iw.1 h;exact fE.1 h1
theorem a8t {a:Qt}(h:gH a=0):(Ny a).i64:=⟨iV (BJ h).1,iV (BJ h).2⟩
theorem BK {m:Mv}{a:Qt}(hm:m.ok)(ha:gH a=0)(h:(bZ 0 m (Ny a)).2=0):eY (FV m a)=0:=by
 have h1:=((tQ (c:=0) (.inl rfl) hm (BJ ha)).2 h).2.1;have e:FV m a=⟨(bZ 0 m (Ny a)).1.x.n,(bZ 0 m (Ny a)).1.x.d,(bZ 0 m (Ny a)).1.y.n,(bZ 0 m (Ny a)).1.y.d⟩:=by
  unfold FV Ny
  with_reducible rfl
 rw[e];clear e h;generalize bZ 0 m (Ny a)=z at h1⊢;exact fE.2 ⟨h1.1,h1.2⟩
theorem xD {m:Mv}{a:Qt}(h:xq m a=true):(bZ 0 m (Ny a)).2=0:=by
 unfold xq at h;simp only[Bool.and_eq_true,decide_eq_true_eq] at h;exact h.1
theorem a0E {m:Mv}{a:Qt}(h:(bZ 0 m (Ny a)).2=0)(hb:jw (FV m a)=0):xq m a=true:=by
 unfold xq;simp only[Bool.and_eq_true,decide_eq_true_eq];exact⟨h,by rw[hb];rfl⟩
theorem Xw {m:Mv}{a:Qt}(hb:¬jw (FV m a)=0):xq m a=false:=by
 unfold xq;simp only[Bool.and_eq_false_iff];exact .inr (by simpa using hb)
theorem Gu {m:Mv}{a:Qt}(h:¬(bZ 0 m (Ny a)).2=0):xq m a=false:=by
 cases hg:xq m a with
 |false=>rfl
 |true=>exact absurd (xD hg) h
theorem Tj {E:Nat->Addr}(m:Mv)(hm:m.ok)(l:List Qt)(o:Option Addr)(cap:Nat)(w:ag)(hok:kR l)(h:eO w o l)(hN:NE E w):
  ax 191 #[.agg #[.slice o l.length cap],mv m] w fun e W=>Ti E m l w.heap.size e W/\Below w.heap.size w W:=by
 have HC:Ai (E 2) (E 3) (E 2) m:=uX (lg hm) (nQ hm);have hE:=hN.e3;have HM:Hid m.ok:=hm;have Tk:=aj hok;clear hm hN;obtain⟨i0,hi,hz0,hz1,hz2⟩:=info_parts UA;go_enter func191,ntmps191;go_upto_region 1 with fail;obtain⟨U,hU⟩:∃U,((w.alloc (.cells #[.slice o l.length cap] 136)).alloc (.cells (mA m) 129)).alloc (.cells #[.slice none 0 0] 136)=U:=⟨_,rfl⟩;obtain⟨k0,k1,k2,rV⟩:=a8l w _ _ _ U hU;rw[hU];clear hU;have Lp:=hE.below rV ai;have CK:=HC U Lp;have m0:=aJ k1 0 _ rfl;have m1:=aJ k1 1 _ rfl;have m2:=aJ k1 2 _ rfl;have m3:=aJ k1 3 _ rfl;have m4:=aJ k1 4 _ rfl;have m5:=aJ k1 5 _ rfl;have m6:=aJ k1 6 _ rfl;have m7:=aJ k1 7 _ rfl;have m8:=aJ k1 8 _ rfl;have m9:=aJ k1 9 _ rfl;have m10:=aJ k1 10 _ rfl;have m11:=aJ k1 11 _ rfl;go_upto_region 4 with(go_at_call 200;refine CK.mono ?_;rintro e w1 ⟨rfl,b1⟩);clear CK m0 m1 m2 m3 m4 m5 m6 m7 m8 m9 m10 m11;have k0:=ig b1 k0;have k1:=ig b1 k1;have k2:=ig b1 k2;have hb1:=aA rV b1;have hE1:=hE.below hb1 ai;have SC:=uO (E 2) (E 3) (E 2) l o cap w1 (h.below hb1 ai) hE1;have s0:=aJ k0 0 _ rfl;have Uf:=aj hok;go_upto_region 7 with(go_at_call 128;refine SC.mono ?_;rintro e w2 ⟨hc,b2⟩;have he:e=.returned .nilIface:=(by rcases hc.plain with⟨-,h2⟩|⟨h1, -⟩;exact h2;exact absurd Uf.out h1);subst he;clear hc);clear SC s0;have k0:=ig b2 k0;have k1:=ig b2 k1;have k2:=ig b2 k2;have hb2:=aA hb1 b2;have aau:=hok.1;have s0:=aJ k0 0 _ rfl;clear hok b1 b2 hE1 Lp;go_wp2_with fail
 go_loopw [8,28] (fun v y wr=>∃k:Nat,k<=l.length/\y=aa k/\(∀a∈l.take k,xq m a=true)/\gU wr w2.heap.size v ((l.take k).map (FV m))/\Below w2.heap.size w2 wr) (fun _ y _=>l.length-(intOf y).toNat)
 case atStart=>exact⟨0,Nat.zero_le _,rfl,by simp,gU.nil _ _,Below.refl _ _⟩
 case round=>
  obtain⟨k,hk,rfl,hall,hown,hb⟩:=hrel;have HAL:=aj hall;have a8u:∀a∈(l.take k).map (FV m),PI a:=fun a ha=>by
   obtain⟨b,hb',rfl⟩:=List.mem_map.1 ha;exact zu (BK HM.out (Tk.out.2 b (List.mem_of_mem_take hb')) (xD (hall b hb')))
  obtain⟨ov,cv,rfl, -⟩:=hown.at_ a8u;have hlen:((l.take k).map (FV m)).length=k:=by rw[List.length_map,List.length_take];omega
  rw[hlen] at hown⊢;have HLEN:=aj hlen;clear hall a8u hlen;by_cases hlt:k<l.length
  ·have hlt':(k:Int)<(l.length:Int):=by omega
   obtain⟨a,ha⟩:∃a,l[k]? =some a:=⟨_,List.getElem?_eq_getElem hlt⟩;have hmem:=List.mem_of_getElem? ha;obtain⟨b,off,ho,hp⟩:=(h.below (aA hb2 hb) ai) k a ha;subst ho;obtain⟨c0,c1,c2,c3,hpi⟩:=hp;have HL:=aj ha;have hE2:=hE.below (aA hb2 hb) ai;have b3:=aU wr (.cells #[aa a.xn,aa a.xd,aa a.yn,aa a.yd] 177);have F3:=Four.new wr (aa a.xn) (aa a.xd) (aa a.yn) (aa a.yd) 177;have kr:=ig (aA hb b3) k1;have LZ:=hE2.below b3 ai;by_cases hc0:(bZ 0 m (Ny a)).2=0
   ·have AT:=a6M (aB:=E 2) (aS:=E 3) (aZ:=E 2) (lg HM.out) (a8t (Tk.out.2 a hmem)) (a3c HM.out (BJ (Tk.out.2 a hmem)) (Gd hc0)) _ LZ;have hcg:eY (FV m a)=0:=BK HM.out (Tk.out.2 a hmem) hc0;have AT:ax 229 #[mv m,lN a] _ fun e w'=>e=.returned (.tuple #[lN (FV m a),.nilIface])/\Below _ _ w':=AT;have HC0:=aj hc0;clear ha hc0;go_upto_region 11 with fail;obtain⟨V,hV⟩:∃V,wr.alloc (.cells #[aa a.xn,aa a.xd,aa a.yn,aa a.yd] 177)=V:=⟨_,rfl⟩;rw[hV] at b3 F3 kr LZ AT⊢;clear hV c0 c1 c2 c3;have m0:=aJ kr 0 _ rfl;have m1:=aJ kr 1 _ rfl;have m2:=aJ kr 2 _ rfl;have m3:=aJ kr 3 _ rfl;have m4:=aJ kr 4 _ rfl;have m5:=aJ kr 5 _ rfl;have m6:=aJ kr 6 _ rfl;have m7:=aJ kr 7 _ rfl;have m8:=aJ kr 8 _ rfl;have m9:=aJ kr 9 _ rfl;have m10:=aJ kr 10 _ rfl;have m11:=aJ kr 11 _ rfl;obtain⟨f0,f1,f2,f3⟩:=F3;generalize hga:FV m a=q at*;have HGA:=aj hga;clear hga;go_upto_region 12 with(go_at_call 229;refine AT.mono ?_;rintro e w3 ⟨rfl,b4⟩);clear AT f0 f1 f2 f3 m0 m1 m2 m3 m4 m5 m6 m7 m8 m9 m10 m11;have b5:=aU w3 (.cells #[aa q.xn,aa q.xd,aa q.yn,aa q.yd] 177);have F5:=Four.new w3 (aa q.xn) (aa q.xd) (aa q.yn) (aa q.yd) 177;obtain⟨V2,hV2⟩:∃V,w3.alloc (.cells #[aa q.xn,aa q.xd,aa q.yn,aa q.yd] 177)=V:=⟨_,rfl⟩;obtain⟨BQ,hBQ⟩:∃B,w3.heap.size=B:=⟨_,rfl⟩;rw[hV2] at b5 F5⊢;have b6:=aA (aA b3 b4) b5;rw[hBQ] at F5⊢;clear hV2 hBQ b3 b4 b5 LZ kr;have CS:=lX (E 2) (E 3) (E 2) q V2 (zu hcg) (uM hcg) (hE2.below b6 ai);obtain⟨f0,f1,f2,f3⟩:=id F5;by_cases hx:jw q=0
    ·rw[hx] at CS;have HX:=aj hx;clear hx;go_upto_region 14 with(go_at_call 177;refine CS.mono ?_;rintro e w4 ⟨rfl,b7⟩;simp only[pO]);clear CS f0 f1 f2 f3;obtain⟨f0,f1,f2,f3⟩:=F5.below b7 ai;have b8:=aA (aA hb b6) b7;have YC:=b8.size;have a2e:w4.ownsRow w2.heap.size 177 4 (.slice ov k cv) k (dI ((l.take k).map (FV m))):=by
      have h:=hown.keep (aA b6 b7);unfold gU at h;rw[HLEN.out] at h;exact h
     have hz4:=(aA b6 b7).size;have hnb:=World.alloc_heap_new w4 (.cells #[aa q.xn,aa q.xd,aa q.yn,aa q.yd] 177);have Xt:(w4.alloc (.cells #[aa q.xn,aa q.xd,aa q.yn,aa q.yd] 177)).ownsRow w2.heap.size 177 4 (.slice ov k cv) k (dI ((l.take k).map (FV m))):=World.ownsRow.alloc a2e _;have HT:Hid ((l.take (k+1)).map (FV m)=(l.take k).map (FV m)++[q]/\∀a∈l.take (k+1),xq m a=true):=by
      have ht:l.take (k+1)=l.take k++[a]:=by rw[List.take_add_one,HL.out];rfl
      constructor
      ·rw[ht,List.map_append,List.map_singleton,HGA.out]
      ·rw[ht];intro y hy;rcases List.mem_append.1 hy with h|h
       ·exact HAL.out y h
       ·simp at h;rw[h];exact a0E HC0.out (by rw[HGA.out];exact HX.out)
     generalize (l.take k).map (FV m)=R at*;clear hown a2e;go_wp2_with(at_builtin;refine wpList_append_own _ rfl _ _ 134 rfl (w2.heap.size) 177 i0 (.agg #[aa 0,aa 0,aa 0,aa 0]) 4 32 underlying134 hi hz0 hz1 hz2 rfl (by decide) _ _ _ rfl Xt _ _ _ (dI [q]) rfl (tq [q]) (World.news_of_block hnb) (zR _) (by simp only[maxLen];omega) (by omega) (by simp;omega) ?_;intro v12 w12 Xu a3V _)
     go_roundw
     case rel=>exact⟨k+1,by omega,by go_num,HT.out.2,by rw[HT.out.1];rw[<- HLEN.out] at Xu;exact gU.app (m:=[q]) Xu rfl,(b8.alloc YC _).grown a3V (by simp;omega) (Oo Xt)⟩
     case measure=>simp[intOf];omega
    ·have hx2:jw q=2:=by have:=kQ q;omega
     rw[hx2] at CS;have HX:=aj hx;clear hx hx2;go_upto_region 13 with(go_at_call 177;refine CS.mono ?_;rintro e w4 ⟨rfl,b7⟩;simp only[Vb]);clear CS f0 f1 f2 f3;have b8:=aA (aA hb b6) b7;have k24:=ig b8 k2;have q4:=aJ k24 0 _ rfl;have f4:=cO k24 0;have hE4:=(hE.below (aA hb2 b8) ai).b;have a3Z:=(Array.getElem?_eq_some_iff.1 k24).1;have ne4:¬w4.heap.size=w.heap.size+1+1:=by omega
     have ne5:¬w.heap.size+1+1=w4.heap.size:=by omega
     have MN:=aC hE.b;have hE5:(w4.setCell ⟨w.heap.size+1+1,0,none⟩ (.slice none 0 0)).cell? (ak 0 0)=some (.iface 390 (.pointer (some (E 2)))):=(World.cell?_setCell_far _ _ _ _ (by have:0<w.heap.size:=MN;show w.heap.size+1+1≠0;omega)).trans hE4;clear MN;go_region;go_wp2_with fail;have d4:(((w4.setCell ⟨w.heap.size+1+1,0,none⟩ (.slice none 0 0)).alloc (.cells #[aa k,.iface 390 (.pointer (some (E 2)))] 115)).drew).cell? ⟨w.heap.size+1+1,0,none⟩=some (.slice none 0 0):=au _ (World.cell?_setCell_same' _ _ _ (by rw[q4];rfl));have b9:=aA hb2 b8;refine bodyPost_ret (v:=.tuple #[.agg #[.slice none 0 0],.iface 113 (ay w4.heap.size)]) (by simp[results,results191,go_sem,d4]) rfl ⟨?_,below_drewN ((b9.setCell (by simp;omega) _).alloc (by simpa using b9.size) _) 1⟩;refine Xv hmem ?_ ⟨by decide,by decide,.inr ⟨_,0,rfl,?_⟩⟩
     ·exact Xw (by rw[HGA.out];exact HX.out)
     ·show(((w4.setCell ⟨w.heap.size+1+1,0,none⟩ (.slice none 0 0)).alloc (.cells #[aa k,.iface 390 (.pointer (some (E 2)))] 115))).cell? ⟨w4.heap.size,1,none⟩=some (eV (E 2));have hs4:(w4.setCell ⟨w.heap.size+1+1,0,none⟩ (.slice none 0 0)).heap.size=w4.heap.size:=by simp
      have hcn:=aF (World.alloc_heap_new (w4.setCell ⟨w.heap.size+1+1,0,none⟩ (.slice none 0 0)) (.cells #[aa k,.iface 390 (.pointer (some (E 2)))] 115)) 1 _ rfl;rw[hs4] at hcn;exact hcn
   ·have AT:∀V,E3 (E 2) (E 3) (E 2) V->ax 229 #[mv m,lN a] V fun e w'=>e=.returned (.tuple #[lN zQt,eV (E 2)])/\Below V.heap.size V w':=fun V hV=>by
     have h1:=a6N (aB:=E 2) (aS:=E 3) (aZ:=E 2) (m:=m) (p:=Ny a) (lg HM.out) (a8t (Tk.out.2 a hmem)) (fun q e=>hc0 (by rw[(a3d e).2.2])) V hV;have h2:(atR m (Ny a)).2=.bare 2:=by
      unfold atR;rw[if_neg (by simp[nQ HM.out]),if_neg (by simp[OY (BJ (Tk.out.2 a hmem))]),if_neg hc0]
     rw[h2] at h1;refine h1.mono ?_;rintro e w' ⟨⟨v,rfl, -,rfl⟩,hb'⟩;exact⟨rfl,hb'⟩
    have AT:=AT _ LZ;have HC0:=aj hc0;clear ha hc0;go_upto_region 11 with fail;obtain⟨V,hV⟩:∃V,wr.alloc (.cells #[aa a.xn,aa a.xd,aa a.yn,aa a.yd] 177)=V:=⟨_,rfl⟩;rw[hV] at b3 F3 kr LZ AT⊢;clear hV c0 c1 c2 c3;have m0:=aJ kr 0 _ rfl;have m1:=aJ kr 1 _ rfl;have m2:=aJ kr 2 _ rfl;have m3:=aJ kr 3 _ rfl;have m4:=aJ kr 4 _ rfl;have m5:=aJ kr 5 _ rfl;have m6:=aJ kr 6 _ rfl;have m7:=aJ kr 7 _ rfl;have m8:=aJ kr 8 _ rfl;have m9:=aJ kr 9 _ rfl;have m10:=aJ kr 10 _ rfl;have m11:=aJ kr 11 _ rfl;obtain⟨f0,f1,f2,f3⟩:=F3;go_upto_region 12 with(go_at_call 229;refine AT.mono ?_;rintro e w3 ⟨rfl,b4⟩);clear AT f0 f1 f2 f3 m0 m1 m2 m3 m4 m5 m6 m7 m8 m9 m10 m11;have b5:=aU w3 (.cells #[aa 0,aa 0,aa 0,aa 0] 177);obtain⟨w4,hV2⟩:∃V,w3.alloc (.cells #[aa 0,aa 0,aa 0,aa 0] 177)=V:=⟨_,rfl⟩;rw[hV2] at b5⊢;have b6:=aA (aA b3 b4) b5;clear hV2 b3 b4 b5 LZ kr;go_upto_region 13 with fail;have b8:=aA hb b6;have k24:=ig b8 k2;have q4:=aJ k24 0 _ rfl;have f4:=cO k24 0;have hE4:=(hE.below (aA hb2 b8) ai).b;have a3Z:=(Array.getElem?_eq_some_iff.1 k24).1;have ne4:¬w4.heap.size=w.heap.size+1+1:=by omega
    have ne5:¬w.heap.size+1+1=w4.heap.size:=by omega
    have MN:=aC hE.b;have hE5:(w4.setCell ⟨w.heap.size+1+1,0,none⟩ (.slice none 0 0)).cell? (ak 0 0)=some (.iface 390 (.pointer (some (E 2)))):=(World.cell?_setCell_far _ _ _ _ (by have:0<w.heap.size:=MN;show w.heap.size+1+1≠0;omega)).trans hE4;clear MN;go_region;go_wp2_with fail;have d4:(((w4.setCell ⟨w.heap.size+1+1,0,none⟩ (.slice none 0 0)).alloc (.cells #[aa k,.iface 390 (.pointer (some (E 2)))] 115)).drew).cell? ⟨w.heap.size+1+1,0,none⟩=some (.slice none 0 0):=au _ (World.cell?_setCell_same' _ _ _ (by rw[q4];rfl));have b9:=aA hb2 b8;refine bodyPost_ret (v:=.tuple #[.agg #[.slice none 0 0],.iface 113 (ay w4.heap.size)]) (by simp[results,results191,go_sem,d4]) rfl ⟨?_,below_drewN ((b9.setCell (by simp;omega) _).alloc (by simpa using b9.size) _) 1⟩;refine Xv hmem ?_ ⟨by decide,by decide,.inr ⟨_,0,rfl,?_⟩⟩
    ·exact Gu HC0.out
    ·show(((w4.setCell ⟨w.heap.size+1+1,0,none⟩ (.slice none 0 0)).alloc (.cells #[aa k,.iface 390 (.pointer (some (E 2)))] 115))).cell? ⟨w4.heap.size,1,none⟩=some (eV (E 2));have hs4:(w4.setCell ⟨w.heap.size+1+1,0,none⟩ (.slice none 0 0)).heap.size=w4.heap.size:=by simp
     have hcn:=aF (World.alloc_heap_new (w4.setCell ⟨w.heap.size+1+1,0,none⟩ (.slice none 0 0)) (.cells #[aa k,.iface 390 (.pointer (some (E 2)))] 115)) 1 _ rfl;rw[hs4] at hcn;exact hcn
  ·obtain rfl:k=l.length:=by omega
   have b8:=hb;have k24:=ig b8 k2;have q4:=aJ k24 0 _ rfl;have f4:=cO k24 0;have a3Z:=(Array.getElem?_eq_some_iff.1 k2).1;go_wp2_with fail;have d0:(wr.setCell ⟨w.heap.size+1+1,0,none⟩ (.slice ov l.length cv)).cell? ⟨w.heap.size+1+1,0,none⟩=some (.slice ov l.length cv):=World.cell?_setCell_same' _ _ _ (by rw[q4];rfl);have hw:w.heap.size<=w2.heap.size:=hb2.size;refine bodyPost_ret (v:=.tuple #[.agg #[.slice ov l.length cv],.nilIface]) (by simp[results,results191,go_sem,d0]) rfl ⟨a0D ?_ ?_,(aA hb2 hb).setCell (by simp;omega) _⟩
   ·have:=HAL.out;rwa[List.take_length] at this
   ·have:=(hown.far (b:=w.heap.size+1+1) (u:=.slice ov l.length cv) a3Z).low hw;rwa[List.take_length] at this
def xE (q:Int->Bool):Nat->List Int->Int
 |_,[]=> -1
 |k,x::l=>if q x then(k:Int) else xE q (k+1) l
theorem EU (q:Int->Bool):∀(l:List Int) (k:Nat),(xE q k l= -1/\l.find? q=none)\/∃i x,xE q k l=((k+i:Nat):Int)/\l[i]? =some x/\l.find? q=some x
 |[],_=>.inl ⟨rfl,rfl⟩
 |x::l,k=>by
  unfold xE;rw[List.find?_cons];cases hx:q x with
  |true=>exact .inr ⟨0,x,by simp,rfl,rfl⟩
  |false=>
   rcases EU q l (k+1) with⟨h1,h2⟩|⟨i,y,h1,h2,h3⟩
   ·exact .inl ⟨by simpa using h1,h2⟩
   ·exact .inr ⟨i+1,y,by rw[if_neg (by simp),h1];congr 1;omega,by simpa using h2,h3⟩
theorem ints_at {w:ag}{B0:Nat}{v:ah}{l:List Int}(h:w.ownsRow B0 3 1 v l.length (bD l)):(l=[]/\∃o c,v=.slice o 0 c)\/∃g cap,v=.slice (some ⟨g,0,none⟩) l.length cap/\l.length<=cap/\∀k x,l[k]? =some x->w.cell? (ak g k)=some (aa x):=by
 obtain⟨o,cap,JE,h1,h2,h3,h5⟩:=bS h;cases l with
 |nil=>exact .inl ⟨rfl,_,_,JE⟩
 |cons x0 r=>
  have AT:∀(k:Nat) (x:Int),(x0::r)[k]? =some x->(bD (x0::r))[k]? =some (aa x):=fun k x hx=>by
   unfold bD;rw[List.getElem?_map,hx];rfl
  obtain⟨g,hg, -⟩:=bO h 0 _ (AT 0 x0 rfl);have hog:=h5 g hg;subst JE hog;refine .inr ⟨g,cap,rfl,by omega,fun k x hx=>?_⟩;obtain⟨g1,hg1,c1⟩:=bO h _ _ (AT k x hx);rw[hg] at hg1;cases hg1;exact c1
def IxL (q:Int->Bool)(l:List Int)(W:ag)(y:ah)(wr:ag):Prop:=∃k:Nat,k<=l.length/\y=aa k/\xE q 0 l=xE q k (l.drop k)/\Below W.heap.size W wr
theorem NG (q:Int->Bool)(l:List Int)(W:ag)(f:Nat)(cv:Array ah)(B0:Nat)(v:ah)(hl:l.length<=1000000)(h:W.ownsRow B0 3 1 v l.length (bD l))
  (HQ:∀x∈l,∀V,Below W.heap.size W V->ax f (#[aa x]++cv) V fun e w'=>e=.returned (.bool (q x))/\Below V.heap.size V w') (hf:f=238) (hcv:∃a b,cv=#[.pointer (some a),.pointer (some b)]):
  ax 208 #[v,.func (.func f) #[] cv] W fun e w'=>e=.returned (aa (xE q 0 l))/\Below W.heap.size W w':=by
 subst hf;obtain⟨a,b,rfl⟩:=hcv;have HH:=aj HQ;clear HQ;rcases ints_at h with⟨rfl,o,c,rfl⟩|⟨g,cap,rfl,hcap,hc⟩
 ·clear h;go_enter func208,ntmps208;go_wp2_with fail
  go_loopw [8] (fun y wr=>y=aa 0/\wr=W) (fun _ _=>0)
  case atStart=>exact⟨rfl,rfl⟩
  case round=>
   obtain⟨rfl,rfl⟩:=hrel;go_wp2_with fail;go_ret;exact⟨rfl,Below.refl _ _⟩
 ·have H4:=aj hc;clear h hc;have agx:(l.length:Int)<=(cap:Int):=by omega
  go_enter func208,ntmps208;go_wp2_with fail
  go_loopw [8] (fun y wr=>IxL q l W y wr) (fun y _=>l.length-(intOf y).toNat)
  case atStart=>exact⟨0,Nat.zero_le _,rfl,rfl,Below.refl _ _⟩
  case round=>
   obtain⟨k,hk,rfl,hf,hb⟩:=hrel;have HF:=aj hf;clear hf;by_cases hlt:k<l.length
   ·have hlt':(k:Int)<(l.length:Int):=by omega
    obtain⟨x,hx,hd⟩:=drop_at hlt;have k0:=H4.out k x hx;have k0:=(hb.cell (aC k0)).trans k0;have HS:=HH.out x (List.mem_of_getElem? hx) wr hb;have HD:=aj hd;clear hx hd;cases hs:q x with
    |true=>
     rw[hs] at HS;have hf':Hid (xE q 0 l=k):=by show _=_;rw[HF.out,HD.out];unfold xE;rw[if_pos hs]
     clear hs;go_wp2_with(go_at_call 238;refine HS.mono ?_;rintro e w1 ⟨rfl,hb1⟩);go_ret;exact⟨by rw[hf'.out];rfl,aG hb hb1⟩
    |false=>
     rw[hs] at HS;have hf':Hid (xE q 0 l=xE q (k+1) (l.drop (k+1))):=by show _=_;rw[HF.out,HD.out,xE,if_neg (by rw[hs];simp)]
     clear hs;go_wp2_with(go_at_call 238;refine HS.mono ?_;rintro e w1 ⟨rfl,hb1⟩)
     go_roundw
     case rel=>exact⟨k+1,by omega,by go_num,hf'.out,aG hb hb1⟩
     case measure=>simp[intOf];omega
   ·obtain rfl:k=l.length:=by omega
    have hf':Hid (xE q 0 l= -1):=by show _=_;rw[HF.out,List.drop_length];rfl
    go_wp2_with fail;go_ret;exact⟨by rw[hf'.out];rfl,hb⟩
section
variable {E:Nat->Addr}{B:Nat}{tg:bf}{W:ag}{DB MB:Nat}{p:Int->Option Nat}{M:Dm}{nx c:Nat}{r:Int->Nat}
theorem Xx (hd:aO B tg W DB MB p M nx c)(WB BW BO:Nat)(v:Bs)(hw:W.cell? (ak WB 0)=some (ay DB))(h1:W.cell? (ak BW 0)=some (ay WB))(h2:W.cell? (ak BO 0)=some (bV v))(n:Int)(hn:bA n):
  ax 238 #[aa n,ay BW,ay BO] W fun e w'=>e=.returned (.bool (yP M n kId==some v))/\Below W.heap.size W w':=by
 have AT:=jv hd n hn kId;rw[qK] at AT;have H2:=fun V (hV:Below W.heap.size W V)=>(hV.cell (aC h2)).trans h2;clear hd h2;cases ha:yP M n kId with
 |none=>
  rw[ha] at AT;clear ha;go_enter func238,ntmps238;go_wp2_with(go_at_call 17;refine AT.mono ?_;rintro e w1 ⟨rfl,b1⟩);go_ret;exact⟨rfl,b1⟩
 |some s=>
  rw[ha] at AT;have hq:=fD s v;have hs:(some s==some v)=(s==v):=rfl;rw[hs];clear ha hs;cases hsv:(s==v) with
  |true=>
   rw[hsv] at hq;go_enter func238,ntmps238;go_wp2_with(go_at_call 17;refine AT.mono ?_;rintro e w1 ⟨rfl,b1⟩;have k2:=H2 w1 b1);go_ret;exact⟨rfl,b1⟩
  |false=>
   rw[hsv] at hq;go_enter func238,ntmps238;go_wp2_with(go_at_call 17;refine AT.mono ?_;rintro e w1 ⟨rfl,b1⟩;have k2:=H2 w1 b1);go_ret;exact⟨rfl,b1⟩
theorem dN.Qe (h:dN B tg W DB MB p M nx c r):Dp M 11 0/\(dw M 11 0).length<=100:=by
 obtain⟨e0,he0, -⟩:=h.d.root;have hp:=h.d.dp 11 0 e0 he0 (by omega);refine⟨hp,?_⟩;unfold dw;rw[h.d.count h.n hp];exact h.le
def LdR (x:Option Int)(e:Ending):Prop:=match x with
 |some k=>e=.returned (.tuple #[aa k,.bool true])
 |none=>e=.returned (.tuple #[aa 0,.bool false])
theorem Xy (h:dN B tg W DB MB p M nx c r):∀x∈dw M 11 0,bA x:=fun x hx=>by
 obtain⟨e,he⟩:=((h.d.mem h.Qe.1).1 hx).in_;have h1:=h.w.dom x e he;have h2:=h.w.few;exact WalkArith.wf_i64 (by omega)
theorem Tm (h:dN B tg W DB MB p M nx c r)(WB:Nat)(hw:W.cell? (ak WB 0)=some (ay DB))(n:Int)(hn:bA n):
  ax 197 #[ay WB,aa n] W fun e w'=>LdR (FW M n) e/\Below W.heap.size W w':=by
 have b0:=di W (.cells #[ay WB] 119);have K0:=cZ W #[ay WB] 119;have AT:=jv (h.w.below b0) n hn kOf;have hw0:=(b0.cell (aC hw)).trans hw;rw[qK] at AT;have HS:=aj h;unfold FW;cases ha:yP M n kOf with
 |none=>
  rw[ha] at AT;clear ha h;go_enter func197,ntmps197;go_wp2_with(go_at_call 17;refine AT.mono ?_;rintro e w1 ⟨rfl,b1⟩)
  go_ret2
  exact⟨rfl,aG (aG b0 b1) (di w1 _)⟩
 |some s=>
  rw[ha] at AT;have AT:ax 17 #[ay DB,aa n,.string ⟨#[111,102]⟩] (W.alloc (.cells #[ay WB] 119)) fun r w'=>r=.returned (.tuple #[bV s,.bool true])/\Below (W.alloc (.cells #[ay WB] 119)).heap.size (W.alloc (.cells #[ay WB] 119)) w':=AT;clear ha h;dsimp only;obtain⟨L,hL⟩:∃L,dw M 11 0=L:=⟨_,rfl⟩;have hAL:allM M=L:=hL;rw[hAL];have a8v:=Xy HS.out;have hall:=HS.out.Qe.2;rw[hL] at a8v hall;have Nz:=aj hL;clear hL hAL;obtain⟨ans,ny⟩:∃x,L.find? (fun k=>yP M k kId==some s)=x:=⟨_,rfl⟩;rw[ny];have NH:=aj ny;clear ny;go_enter func197,ntmps197;go_upto_region 4 with(go_at_call 17;refine AT.mono ?_;rintro e w1 ⟨rfl,b1⟩);have b2:=di w1 (.cells #[bV s] 9);have KO:=cZ w1 #[bV s] 9;obtain⟨V,hV⟩:∃V,w1.alloc (.cells #[bV s] 9)=V:=⟨_,rfl⟩;obtain⟨BO,hBO⟩:∃b,w1.heap.size=b:=⟨_,rfl⟩;rw[hV] at b2 KO⊢;rw[hBO] at KO⊢;have YJ:=aG b1 b2;have bWV:=aG b0 YJ;have KW:=(YJ.block _ (aY K0)).trans K0;have hwV:=(bWV.cell (aC hw)).trans hw;have SV:=HS.out.below bWV;have AL:=a0j SV.w 11 (by decide) SV.Qe.1 (by have:=SV.Qe.2;omega);rw[Nz.out] at AL;have c0:=aF KW 0 _ rfl;clear AT hV hBO b1 b2 b0 K0 hw0 YJ;go_upto_region 5 with(go_at_call 237;refine AL.mono ?_;rintro e w2 ⟨o,k,rfl,b3,own⟩);clear AL;have B2:=aG bWV b3;have hw2:=(b3.cell (aC hwV)).trans hwV;have KW2:=(b3.block _ (aY KW)).trans KW;have KO2:=(b3.block _ (aY KO)).trans KO;have IX:=NG (fun k=>yP M k kId==some s) L w2 238 #[ay W.heap.size,ay BO] _ _ (by omega) own
   (fun x hx V2 hV2=>Xx (HS.out.below (aG B2 hV2)).w WB W.heap.size BO s ((hV2.cell (aC hw2)).trans hw2) (aF ((hV2.block _ (aY KW2)).trans KW2) 0 _ rfl) (aF ((hV2.block _ (aY KO2)).trans KO2) 0 _ rfl) x (a8v x hx)) rfl ⟨_,_,rfl⟩
  have HI:=EU (fun k=>yP M k kId==some s) L 0;have HOWN:=aj own;have han:L.find? (fun k=>yP M k kId==some s)=ans:=NH.out;rw[han] at HI;clear own han;rcases HI with⟨h1,rfl⟩|⟨i,x,h1,h2,rfl⟩
  ·rw[h1] at IX;clear h1;go_wp2_with(go_at_call 208;refine IX.mono ?_;rintro e w3 ⟨rfl,b4⟩)
   go_ret2
   exact⟨rfl,aG B2 b4⟩
  ·rw[h1,Nat.zero_add] at IX;have hil:=(List.getElem?_eq_some_iff.1 h2).1;have R3:∀w3,Below w2.heap.size w2 w3->∃g,o=some ⟨g,0,none⟩/\w3.cell? (ak g i)=some (aa x):=fun w3 b4=>by
    rcases ints_at HOWN.out with⟨he, -⟩|⟨g,cap,hv, -,hc⟩
    ·rw[he] at hil;simp at hil
    ·injection hv with hv1;exact⟨g,hv1,(b4.cell (aC (hc i x h2))).trans (hc i x h2)⟩
   obtain⟨g,rfl, -⟩:=R3 w2 (Below.refl _ _);have hiz:(i:Int)<(L.length:Int):=by omega
   clear h1 h2;go_wp2_with(go_at_call 208;refine IX.mono ?_;rintro e w3 ⟨rfl,b4⟩;obtain⟨g',hg',cg⟩:=R3 w3 b4;cases hg')
   go_ret2
   exact⟨rfl,aG B2 b4⟩
end
end
section
open Go.RowKit Go.Shelf
abbrev rR (Bd Bl:Nat):ah:=.func (.func 49) #[] #[ay Bd,ay Bl]
section
variable {E:Nat->Addr}{B:Nat}{tg:bf}{W:ag}{DB MB:Nat}{p:Int->Option Nat}{M:Dm}{nx c:Nat}{r:Int->Nat}
theorem Tn (h:aO B tg W DB MB p M nx c)(hw:Wd M r)(hF:Dn M)(l:List Rl)(hok:∀x∈l,YI x)(B0:Nat)(v:ah)(hl:W.ownsRow B0 110 3 v l.length (dZ l))(Bd Bl:Nat)(h1:W.cell? (ak Bd 0)=some (ay DB))(h2:W.cell? (ak Bl 0)=some v)(n:Int)(hn:bA n)(nm:Bs):
  ax 49 #[aa n,bV nm,ay Bd,ay Bl] W fun e w'=>e=.returned (bV (ofM M l nm n))/\Below W.heap.size W w':=by
 have OF:=a3Q h hw hF l hok B0 v hl n hn nm;obtain⟨ov,kv,rfl⟩:=aH hl;clear h hw hF hok hl;go_enter func49,ntmps49;go_wp2_with(go_at_call 50;refine OF.mono ?_;rintro e w1 ⟨rfl,b1⟩);go_ret;exact⟨rfl,b1⟩
end
structure dm where
 nd:Int
 o:Option Addr
 cap:Nat
 pts:List Qt
 fill:Bs
 rule:Bs
 lv:Int
def dm.pc (x:dm):Pc:=⟨x.nd,x.pts,x.fill,x.rule,x.lv⟩
abbrev BL (x:dm):ah:=.slice x.o x.pts.length x.cap
def cellsS:List dm->List ah
 |[]=>[]
 |x::l=>aa x.nd::BL x::bV x.fill::bV x.rule::aa x.lv::cellsS l
theorem uu:∀l:List dm,(cellsS l).length=l.length*5
 |[]=>rfl
 |x::l=>by simp[cellsS,uu l];omega
theorem BV:∀l m:List dm,cellsS (l++m)=cellsS l++cellsS m
 |[],_=>rfl
 |x::l,m=>by simp[cellsS,BV l m]
structure Sc (base WB DB:Nat)(sf:ah)(k:Nat)(ps:List dm)(v:ah)(V:ag):Prop where
 wb:V.heap[WB]? =some (.cells #[ay DB,sf,aa k,v] 123)
 own:V.ownsRow base 138 5 v ps.length (cellsS ps)
 pts:∀x∈ps,gU V base (BL x) x.pts
 rt:∀x∈ps,∀a∈x.pts,eY a=0
structure Kw (WB:Nat)(v:ah)(V V':ag):Prop where
 os:V'.os=V.os
 tape:V'.tape=V.tape
 output:V'.output=V.output
 size:V.heap.size<=V'.heap.size
 block:∀b,b<V.heap.size->b≠WB->v.ownBlock≠some b->V'.heap[b]? =V.heap[b]?
theorem Kw.refl (WB:Nat)(v:ah)(V:ag):Kw WB v V V:=⟨rfl,rfl,rfl,Nat.le_refl _,fun _ _ _ _=>rfl⟩
theorem Kw.of_below {WB:Nat}{v:ah}{V V':ag}(h:Below V.heap.size V V'):Kw WB v V V':=⟨h.os,h.tape,h.output,h.size,fun b hb _ _=>h.block b hb⟩
theorem Kw.trans {WB:Nat}{v v':ah}{V V' V'':ag}(h:Kw WB v V V')(hv:v'.ownBlock=v.ownBlock\/∀b,v'.ownBlock=some b->V.heap.size<=b)(h':Kw WB v' V' V''):Kw WB v V V'':=
 ⟨h'.os.trans h.os,h'.tape.trans h.tape,h'.output.trans h.output,Nat.le_trans h.size h'.size,fun b hb h1 h2=>(h'.block b (Nat.lt_of_lt_of_le hb h.size) h1 (fun e=>by
  rcases hv with hv|hv
  ·exact h2 (hv▸e)
  ·have:=hv b e;omega)).trans (h.block b hb h1 h2)⟩
theorem fo {w:ag}{base k n:Nat}{t:TypeId}{v:ah}{xs:List ah}(h:w.ownsRow base t k v n xs):∀g,v.ownBlock=some g->∃cs f,w.heap[g]? =some (.cells cs t f)/\base<=g:=fun g hg=>by
 rcases h.2 with⟨h1, -⟩|⟨g',cap,cur,h3,h4,h5, -⟩
 ·rw[h1] at hg;cases hg
 ·rw[h3] at hg;cases hg;exact⟨_,_,h5,h4⟩
section
variable {base WB DB:Nat}{sf:ah}{k:Nat}{ps:List dm}{v:ah}{V V':ag}
theorem Sc.keep (h:Sc base WB DB sf k ps v V)(hk:Kw WB v V V'){b:Nat}{cs:Array ah}{t:TypeId}{f:Nat×Nat}(hb:V.heap[b]? =some (.cells cs t f))(h1:t≠123)(h2:t≠138):V'.heap[b]? =some (.cells cs t f):=by
 refine(hk.block b (aY hb) ?_ ?_).trans hb
 ·rintro rfl;rw[h.wb] at hb;cases hb;exact h1 rfl
 ·intro e;obtain⟨cs',f',h3, -⟩:=fo h.own b e;rw[h3] at hb;cases hb;exact h2 rfl
theorem Sc.low (h:Sc base WB DB sf k ps v V)(hk:Kw WB v V V')(hW:base<=WB)(hb:base<=V.heap.size):Below base V V':=
 ⟨hk.os,hk.tape,hk.output,hk.size,fun j hj=>hk.block j (by omega) (by omega) (fun e=>by
  obtain⟨-, -, -,h3⟩:=fo h.own j e;omega)⟩
theorem Sc.path (h:Sc base WB DB sf k ps v V)(hk:Kw WB v V V'){q:Option Nat}{l:List (Int×Mv)}(hp:eT V q l):eT V' q l:=
 eT.keep (fun b t ht ⟨c,hc⟩=>by subst hc;exact h.keep hk ht (by decide) (by decide)) hp
theorem Sc.below (h:Sc base WB DB sf k ps v V)(hb:Below V.heap.size V V'):Sc base WB DB sf k ps v V':=
 ⟨(hb.block _ (aY h.wb)).trans h.wb,aP h.own hb,fun x hx=>(h.pts x hx).keep hb,h.rt⟩
end
end
section
def F2 (R:Int->Int->Prop):List Int->List Int->Prop
 |[],[]=>True
 |a::l,b::m=>R a b/\F2 R l m
 |_,_=>False
section
variable {M M':Dm}{r:Int->Nat}{L:List Int}
end
end
end Go.Proofs.YtjfiehbcamfdfaaGreatDoor

/- Parts of the proof. -/
import Derived.Test.YtecneflbncjhpaaGreatDoorQp13
namespace Go.Proofs.YtecneflbncjhpaaGreatDoor
open Go.Proofs.Tryz
set_option maxHeartbeats 8000000
section
open Go.RowKit
set_option maxRecDepth 100000
theorem Zh:(prog.info? 75).map (·.size)=some 2:=by kernel_rfl
theorem a6O:liesAt prog prog.depth 75 (2/prog.cellsOf 75) 0 75 1=true:=by kernel_rfl
theorem PU (b:Nat)(w:ag)(h0:w.cell? (ak b 0)=some (ay b)):
  au 63 #[ay b] w fun e w'=>e=.returned (.tuple #[])/\w'=w:=by
 obtain⟨j,hj, -⟩:=Option.map_eq_some_iff.1 Zh;go_enter func63,ntmps63;go_wp2;rw[Lib.run_neq_ptr_same w _ underlying72 hj];go_wp2
 go_end0
 exact⟨rfl,rfl⟩
theorem ML (b:Nat)(w:ag)(h0:w.cell? (ak b 0)=some (.pointer none))(hs:w.shape? b=some (75,2))(hf:w.frozen? ⟨b,0,none⟩=false):
  au 63 #[ay b] w fun e w'=>e=.returned (.tuple #[])/\w'=w.setCell ⟨b,0,none⟩ (ay b):=by
 obtain⟨j,hj,hjs⟩:=Option.map_eq_some_iff.1 Zh;go_enter func63,ntmps63;go_wp2;rw[Lib.run_to_unsafe w ⟨b,0,none⟩ underlying72 underlying181 hj (by rw[hjs];decide) hs (Nat.zero_lt_succ 1)];simp only[Result.andThen];rw[Oper.upon_value];go_wp2;rw[run_callFunc_extern func114 (by kernel_rfl) (by kernel_rfl) (by kernel_rfl) (e:=Extern.AbiNoEscape.same) (by kernel_rfl),Lib.run_noEscape];simp only[Result.andThen];rw[Oper.upon_value];go_wp2;rw[Lib.run_from_unsafe w ⟨b,0,none⟩ underlying181 underlying72 hj hs a6O];simp only[Result.andThen];rw[Oper.upon_value];go_wp2
 go_end0
 exact⟨rfl,rfl⟩
abbrev BdP (B b:Nat)(l:List UInt8)(w:ag):Prop:=Lib.IsBuilderF 75 5 B b (Lib.byteCells l) w
structure IY (B b:Nat)(w w':ag):Prop where
 low:Below B w w'
 oth:Lib.OthersKept 5 (some b) w w'
theorem IY.trans {B b:Nat}{w w' w'':ag}(h:IY B b w w')(k:IY B b w' w''):IY B b w w'':=⟨h.low.trans k.low,h.oth.trans k.oth⟩
theorem IY.refl (B b:Nat)(w:ag):IY B b w w:=⟨aG _ _,Lib.OthersKept.refl _ _ _⟩
theorem V6 (B b:Nat)(l:List UInt8)(w:ag)(h:BdP B b l w):au 63 #[ay b] w fun e w'=>e=.returned (.tuple #[])/\Lib.BuilderAtF 75 5 B b (ay b) (Lib.byteCells l) w'/\IY B b w w':=by
 rcases h with h|h
 ·refine(ML b w h.cell0 h.shape h.frozen0).mono ?_;rintro e w' ⟨rfl,rfl⟩;exact⟨rfl,h.used _,(aG B w).setCell (p:=⟨b,0,none⟩) h.1 _,(Lib.OthersKept.refl _ _ w).setCell ⟨b,0,none⟩ rfl _⟩
 ·refine(PU b w h.cell0).mono ?_;rintro e w' ⟨rfl,rfl⟩;exact⟨rfl,h,IY.refl _ _ _⟩
theorem V7:(prog.info? 5).map (fun i=>(i.zero,i.size,i.bytes))=some (some (.int .u8 0),1,1):=by kernel_rfl
theorem V9 {w:ag}{B:Nat}{e:TypeId}{v:ah}{n:Nat}{xs:List ah}(h:w.ownsRowF B e 1 v n xs):∃ao n' cap,v=.slice ao n' cap:=by
 rcases h.2 with⟨hv,_⟩|⟨g,cap,cur,fz,hv,_⟩
 ·exact⟨_,_,_,hv⟩
 ·exact⟨_,_,_,hv⟩
theorem MM {w:ag}{b:Nat}{o:Obj}(h:w.heap[b]? =some o):b<w.heap.size:=(cZ.1 h).1
theorem Va (w:ag)(x:ah)(t:TypeId):∀j u,[x][j]? =some u->(w.alloc (.cells #[x] t)).cell? ((⟨w.heap.size,0,none⟩:Addr).add j)=some u:=by
 intro j u h
 match j,h with
 |0,h=>simp at h;subst h;show(w.alloc (.cells #[x] t)).cell? ⟨w.heap.size,0,none⟩=some x;simp
theorem DI (B b:Nat)(l:List UInt8)(c:UInt8)(w:ag)(h:BdP B b l w)(hl:l.length+1<=1000000000)(hB:B<=w.heap.size):
  au 31 #[ay b,.int .u8 c.toNat] w fun e w'=>e=.returned .nilIface/\BdP B b (l++[c]) w'/\IY B b w w':=by
 obtain⟨i0,hi,hz0,hz1,hz2⟩:=info_parts V7;have hbl:(Lib.byteCells l).length=l.length:=by simp[Lib.byteCells]
 have HK:=V6 B b l w h;go_enter func31,ntmps31;go_wp2_with(first|(at_builtin;refine wpList_append_ownF _ rfl _ _ 73 rfl B 5 i0 (.int .u8 0) 1 1 underlying73 hi hz0 hz1 hz2 rfl (by decide) _ _ _ rfl (hown.alloc _) ⟨w1.heap.size,0,none⟩ 1 1 [.int .u8 c.toNat] rfl rfl (Va w1 _ _) (fun u hu=>by simp at hu;subst hu;rfl) (by rw[hbl,show maxLen=9223372036854775807 from by decide];omega) (by rw[hbl];omega) (by simp;omega) ?_;intro v' w2 hown' hgrow _;have hb2:w2.heap[b]? =some (.cells #[ay b,v] 75 (0,0)):=(by rw[hgrow.block b (by have:=MM hbk;simp;omega) (fun e=>hne e.symm),Lib.alloc_old w1 _ b (MM hbk)];exact hbk);have d1:w2.cell? (ak b 1)=some v:=(by rw[Lib.cell_of_heap hb2];rfl);have f1:w2.frozen? ⟨b,1,none⟩=false:=Lib.frozen_of_heap hb2 1;obtain⟨ao,n',cap,rfl⟩:∃ao n' cap,v'=.slice ao n' cap:=V9 hown')|(go_at_call 63;refine HK.mono ?_;rintro e w1 ⟨rfl,⟨hB1,v,hbk,hown,hne⟩,hk1⟩;have c1:w1.cell? (ak b 1)=some v:=(by rw[Lib.cell_of_heap hbk];rfl);have z1:=hk1.low.size));go_ret;have ho2:w2.ownsRowF B 5 1 (.slice ao n' cap) (Lib.byteCells (l++[c])).length (Lib.byteCells (l++[c])):=by
  have e1:Lib.byteCells (l++[c])=Lib.byteCells l++[.int .u8 c.toNat]:=by rw[Lib.byteCells_append];rfl
  rw[e1,List.length_append];exact hown'
 refine⟨rfl,.inr (Lib.BuilderAtF.put (T:=75) (e:=5) hB1 hb2 ho2 (by decide)),hk1.trans ⟨?_,?_⟩⟩
 ·exact(((aG B w1).alloc (by omega) _).grown hgrow (by simp;omega) (fun k hk=>(hown.lt k hk).1)).setCell (p:=⟨b,1,none⟩) hB1 _
 ·exact(((Lib.OthersKept.refl _ _ w1).alloc _).grown hgrow (Lib.ownsRowF_kind (hown.alloc _))).setCell ⟨b,1,none⟩ rfl _
theorem BdP.fresh (B:Nat)(w:ag)(hB:B<=w.heap.size):BdP B w.heap.size [] (w.alloc (.cells #[.pointer none,.slice none 0 0] 75)):=
 .inl ⟨hB,.slice none 0 0,dW w _,World.ownsRowF_of (eH _ _ _ _),by simp[Value.ownBlock]⟩
end
section
open Go.RowKit
set_option maxRecDepth 20000
def fB (b:aC):UInt8:=match b.data.toList with|[]=>63|c::_=>c
def IZ (cells:List aC)(w:Nat):Nat->List UInt8
 |0=>[]
 |k+1=>IZ cells w k++((cells.drop (w*k)).take w).map fB++[10]
theorem EW (b:aC)(w:ag):au 32 #[.string b] w fun e W=>e=.returned (.int .u8 (fB b).toNat)/\W=w:=by
 unfold fB;cases hb:b.data.toList with
 |nil=>
  have h0:(b.toList==[])=true:=by rw[ByteArray.toList_eq,hb];rfl
  have h1:b.toList.isEmpty=true:=by rw[ByteArray.toList_eq,hb];rfl
  go_enter func32,ntmps32;go_wp2_with fail;go_ret;exact⟨rfl,rfl⟩
 |cons c r=>
  have h1:b.toList.isEmpty=false:=by rw[ByteArray.toList_eq,hb];rfl
  have h0:(b.toList==[])=false:=by rw[ByteArray.toList_eq,hb];rfl
  have hs:b.size=r.length+1:=by
   have h2:b.data.toList.length=r.length+1:=by rw[hb];rfl
   simpa using h2
  have hs2:0<b.size:=by omega
  have hc:∀h:0<b.size,(b[0]'h).toNat=c.toNat:=fun h=>by
   have h2:b.data.toList[0]? =some c:=by rw[hb];rfl
   rw[Array.getElem?_toList] at h2;obtain⟨h3,h4⟩:=cZ.1 h2;exact congrArg UInt8.toNat h4
  clear hs hb;go_enter func32,ntmps32;go_wp2_with fail;go_ret;exact⟨rfl,rfl⟩
theorem DJ (cells:List aC)(w:Nat):∀k,(IZ cells w k).length<=(w+1)*k
 |0=>aP _
 |k+1=>by
  have h1:=DJ cells w k;rw[IZ,List.length_append,List.length_append,List.length_map,Nat.mul_succ];have h2:((cells.drop (w*k)).take w).length<=w:=by rw[List.length_take];omega
  simp only[List.length_cons,List.length_nil];omega
theorem MN (cells:List aC)(w h g cp B:Nat)(W:ag)(hw1:1<=w)(hw:w<=40)(hh:h<=40)(hc:W.ownsRow B 9 1 (.slice (some ⟨g,0,none⟩) (w*h) cp) (w*h) (cells.map .string)):
  au 16 #[.agg #[aa w,aa h,.slice (some ⟨g,0,none⟩) (w*h) cp]] W fun e w'=>e=.returned (.string ⟨(IZ cells w h).toArray⟩)/\Below W.heap.size W w':=by
 have hcl:cells.length=w*h:=by have:=hc.1;simpa using this
 obtain⟨oo,cc,hoo,hcp,hcm, -, -⟩:=dL hc;cases hoo;have b0:=bg W (.cells #[aa w,aa h,.slice (some ⟨g,0,none⟩) (w*h) cp] 47);have r0:=dW W (.cells #[aa w,aa h,.slice (some ⟨g,0,none⟩) (w*h) cp] 47);have hwh:w*h<=1600:=Nat.mul_le_mul hw hh;go_enter func16,ntmps16;go_upto_region 2 with fail;obtain⟨V,hV⟩:∃V,W.alloc (.cells #[aa w,aa h,.slice (some ⟨g,0,none⟩) (w*h) cp] 47)=V:=⟨_,rfl⟩;have hVs:V.heap.size=W.heap.size+1:=by rw[<- hV];simp
 rw[hV] at b0 r0⊢;have b1:=bg V (.cells #[.pointer none,.slice none 0 0] 75);have bd:=BdP.fresh V.heap.size V ai;rw[hVs] at bd b1;obtain⟨U,hU⟩:∃U,V.alloc (.cells #[.pointer none,.slice none 0 0] 75)=U:=⟨_,rfl⟩;rw[hU] at b1 bd⊢;clear hV hU;have keep:∀X,Below (W.heap.size+1) V X->X.cell? ⟨W.heap.size,0,none⟩=some (aa w)/\X.cell? ⟨W.heap.size,1,none⟩=some (aa h)/\X.cell? ⟨W.heap.size,2,none⟩=some (.slice (some ⟨g,0,none⟩) (w*h) cp)/\∀j b,cells[j]? =some b->X.cell? (ak g j)=some (.string b):=fun X hX=>by
  have hb:=(hX.block W.heap.size (by omega)).trans r0;refine⟨by simp[World.cell?,hb],by simp[World.cell?,hb],by simp[World.cell?,hb],fun j b hj=>?_⟩;obtain⟨g',hg',h1⟩:=dF hc j (.string b) (by rw[List.getElem?_map,hj];rfl);cases hg';have h2:=aF h1;exact((hX.cell (p:=⟨g,j,none⟩) (by simp at h2⊢;omega)).trans (b0.cell (p:=⟨g,j,none⟩) h2)).trans h1
 have WB:∀(l:List UInt8) (c:UInt8) X,BdP (W.heap.size+1) (W.heap.size+1) l X->Below (W.heap.size+1) V X->l.length<=100000->au 31 #[.pointer (some ⟨W.heap.size+1,0,none⟩),.int .u8 c.toNat] X fun e w'=>e=.returned .nilIface/\BdP (W.heap.size+1) (W.heap.size+1) (l++[c]) w'/\Below (W.heap.size+1) V w':=fun l c X hb hX hl=>(DI (W.heap.size+1) (W.heap.size+1) l c X hb (by omega) (by have:=hX.size;omega)).mono fun e w' ⟨h1,h2,h3⟩=>⟨h1,h2,hX.trans h3.low⟩;have FB:=EW;have KU:=keep U b1;obtain⟨k0,k1,k2, -⟩:=KU;have HCL:=aj hcl;clear hcl hc;go_wp2_with fail
 go_loopw [4,5] (fun u v wr=>∃(k o rem cr:Nat) (A:Addr),k<=h/\u=.slice (some A) rem cr/\v=aa k/\o=w*k/\rem=w*(h-k)/\cr+o=cp/\(k<h->A=⟨g,o,none⟩)/\BdP (W.heap.size+1) (W.heap.size+1) (IZ cells w k) wr/\Below (W.heap.size+1) V wr) (fun _ v _=>h-(intOf v).toNat)
 case atStart=>exact⟨0,0,w*h,cp,⟨g,0,none⟩,aP _,rfl,rfl,rfl,rfl,rfl,fun _=>rfl,bd,b1⟩
 case round=>
  obtain⟨k,o,rem,cr,A,hk,rfl,rfl,ho,PV,hcr,hA,hbd,hb⟩:=hrel;obtain⟨m0,m1, -,m3⟩:=keep wr hb;have hrl:rem+o=w*h:=by rw[ho,PV,<- Nat.mul_add];congr 1;omega
  have HO:Hid (o=w*k/\rem=w*(h-k)/\cr+o=cp/\rem+o=w*h):=⟨ho,PV,hcr,hrl⟩;have hrc:rem<=cr:=by omega
  have htl:(IZ cells w k).length<=2000:=aJ (DJ cells w k) (aJ (Nat.mul_le_mul (show w+1<=41 by omega) (show k<=40 by omega)) (by decide));by_cases hlt:k<h
  ·have hlt':(k:Int)<(h:Int):=by omega
   have hA':=hA hlt;subst hA';have hwr:w<=rem:=by
    rw[PV];have:=Nat.mul_le_mul_left w (show 1<=h-k by omega);omega
   have a4p:w*(h-(k+1))=rem-w:=by
    rw[PV,show h-k=(h-(k+1))+1 from by omega,Nat.mul_succ];omega
   have HR1:=aj a4p;have hpos:(0:Int)<(rem:Int):=by omega
   have hwp:(0:Int)<(w:Int):=by omega
   have hmin:min (w:Int) (rem:Int)=(w:Int):=by omega
   have amw:(w:Int)<=(rem:Int):=by omega
   have amx:(w:Int)<=(cr:Int):=by omega
   clear a4p ho PV hcr hrl hA;obtain⟨A2,hA2,hA3⟩:∃A2:Addr,(if cr=w then some (⟨g,o,none⟩:Addr) else some ⟨g,o+w,none⟩)=some A2/\Hid (w<rem->A2=⟨g,o+w,none⟩):=by
    by_cases hc:cr=w
    ·exact⟨⟨g,o,none⟩,by simp[hc],fun h1=>by omega⟩
    ·exact⟨⟨g,o+w,none⟩,by simp[hc],fun _=>rfl⟩
   have hcw:w<=cr:=by omega
   go_wp2_with fail;obtain⟨T,hT⟩:∃T,IZ cells w k=T:=⟨_,rfl⟩;rw[hT] at hbd htl;have HT:=aj hT;clear hT m0 m1;have hdr:decide (0<rem)=true:=decide_eq_true (by omega);rw[hdr];clear hdr
   go_loopw [40] (fun i wx=>∃j:Nat,j<=w/\i=aa j/\BdP (W.heap.size+1) (W.heap.size+1) (T++((cells.drop o).take j).map fB) wx/\Below (W.heap.size+1) V wx) (fun i _=>w-(intOf i).toNat)
   case atStart=>exact⟨0,aP _,rfl,by simpa using hbd,hb⟩
   case round=>
    obtain⟨j,hj,rfl,hbj,hbx⟩:=hrel;have hlj:(T++((cells.drop o).take j).map fB).length<=3000:=by
     rw[List.length_append,List.length_map,List.length_take];omega
    by_cases hjw:j<w
    ·have amy:(j:Int)<(w:Int):=by omega
     obtain⟨b,hbb⟩:∃b,cells[o+j]? =some b:=⟨_,dK (by have h1:=HCL.out;have h2:=HO.out.2.2.2;omega)⟩;obtain⟨-, -, -,hcell⟩:=keep _ hbx;have hcb:=hcell _ b hbb;have W1:=WB _ (fB b) _ hbj hbx (by omega);have HBJ:Hid ((cells.drop o).take (j+1)=(cells.drop o).take j++[b]):=(by rw[List.take_add_one,List.getElem?_drop,hbb];rfl:(cells.drop o).take (j+1)=(cells.drop o).take j++[b]);clear hcell hbb;go_wp2_with(first|(go_at_call 31;refine W1.mono ?_;rintro e w2 ⟨rfl,bd2,bl2⟩)|(go_at_call 32;refine(FB _ _).mono ?_;rintro e x ⟨rfl,hx⟩;rw[hx];clear hx))
     go_roundw
     case rel=>exact⟨j+1,by omega,by go_num,by rw[HBJ.out,List.map_append,<- List.append_assoc];exact bd2,bl2⟩
     case measure=>simp[intOf];omega
    ·obtain rfl:j=w:=by omega
     have W2:=WB _ 10 _ hbj hbx (by omega);have amA:(k:Int)+1<=100:=by omega
     go_wp2_with(go_at_call 31;refine W2.mono ?_;rintro e w2 ⟨rfl,bd2,bl2⟩)
     go_roundw
     case rel=>
      obtain⟨h1,h2,h3,h4⟩:=HO.out;refine⟨k+1,o+j,rem-j,cr-j,A2,by omega,rfl,by go_num,by rw[h1,Nat.mul_succ],HR1.out.symm,by omega,fun hh=>hA3.out ?_,?_,bl2⟩
      ·have h5:=HR1.out;have h6:1<=h-(k+1):=by omega
       have h7:=Nat.mul_le_mul_left j h6;omega
      ·rw[IZ,HT.out,<- h1];exact bd2
     case measure=>simp[intOf];omega
  ·obtain rfl:k=h:=by omega
   have hr0:rem=0:=by rw[PV];simp
   have SB:=Tryz.Builder_String_any_k (W.heap.size+1) (W.heap.size+1) _ wr hbd (by have:=hb.size;omega);clear PV ho hcr hrl hA;go_wp2_with(go_at_call 28;refine SB.mono ?_;rintro e w4 ⟨rfl,bd4,kp4, -⟩);go_ret;exact⟨rfl,b0.trans ((hb.trans kp4).mono (by omega))⟩
end
end Go.Proofs.YtecneflbncjhpaaGreatDoor

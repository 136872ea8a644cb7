/- Parts of the proof. -/
import Derived.Test.YtecneflbncjhpaaGreatDoorQp19
namespace Go.Proofs.YtecneflbncjhpaaGreatDoor
open Go.Proofs.Tryz
set_option maxHeartbeats 8000000
section
theorem zB (s:aC)(pos:Nat)(h:pos<s.size)(ha:128<=(s[pos]'h).toNat):∀k,1<=k->k<(Utf8.decode s pos).2->pos+k<s.size/\128<=(s.get! (pos+k)).toNat:=by
 have hn:¬(s[pos]'h).toNat<128:=by omega
 intro k hk1 hk2;have h2:(Utf8.decode s pos).2<=4:=by
  simp only[Utf8.decode]
  repeat' split
  all_goals simp
 simp only[Utf8.decode,get_at s pos h,hn,if_false] at hk2;have key:∀k,(decide (pos+k<s.size) && ((s.get! (pos+k)).toNat/64==2))=true->pos+k<s.size/\128<=(s.get! (pos+k)).toNat:=fun k hk=>by
  simp only[Bool.and_eq_true,decide_eq_true_eq,beq_iff_eq] at hk;exact⟨hk.1,by omega⟩
 split at hk2
 ·rename_i hc;rw[Bool.and_eq_true] at hc;have:k=1:=by split at hk2<;>simp only at hk2<;>omega
  subst this;exact key 1 hc.2
 ·split at hk2
  ·rename_i hc;rw[Bool.and_eq_true,Bool.and_eq_true] at hc;have:k=1\/k=2:=by split at hk2<;>simp only at hk2<;>omega
   rcases this with rfl|rfl
   ·exact key 1 hc.1.2
   ·exact key 2 hc.2
  ·split at hk2
   ·rename_i hc;rw[Bool.and_eq_true,Bool.and_eq_true,Bool.and_eq_true] at hc;have:k=1\/k=2\/k=3:=by split at hk2<;>simp only at hk2<;>omega
    rcases this with rfl|rfl|rfl
    ·exact key 1 hc.1.1.2
    ·exact key 2 hc.1.2
    ·exact key 3 hc.2
   ·simp only at hk2;omega
theorem LG (s:aC)(pos:Nat)(h:pos<s.size):pos+(Utf8.decode s pos).2<=s.size:=by
 by_cases ha:128<=(s[pos]'h).toNat
 ·have h1:=(decode_high s pos h ha).2;by_cases h2:(Utf8.decode s pos).2=1
  ·omega
  ·have:=(zB s pos h ha ((Utf8.decode s pos).2-1) (by omega) (by omega)).1;omega
 ·have hn:(s[pos]'h).toNat<128:=by omega
  simp only[Utf8.decode,get_at s pos h,hn,if_true];omega
theorem LH (r:Int)(h:128<=r):2<=(Utf8.encode r).size/\(Utf8.encode r).size<=4/\∀x∈(Utf8.encode r).data.toList,128<=x.toNat:=by
 unfold Utf8.encode;simp only;generalize hc:(if Utf8.valid r=true then r.toNat else Utf8.runeError)=c;have h1:128<=c:=by
  rw[<- hc];split
  ·omega
  ·decide
 have h2:c<=1114111:=by
  rw[<- hc];split
  ·rename_i hv;unfold Utf8.valid at hv;simp at hv;omega
  ·decide
 have key:∀n:Nat,128<=n->n<256->128<=(UInt8.ofNat n).toNat:=fun n h3 h4=>by
  rw[UInt8.toNat_ofNat',Nat.mod_eq_of_lt (by simpa using h4)];exact h3
 rw[if_neg (by omega)];split
 ·refine⟨by simp[ByteArray.size],by simp[ByteArray.size],?_⟩;intro x hx;simp only[List.mem_cons,List.not_mem_nil,or_false] at hx;rcases hx with rfl|rfl
  ·exact key _ (by omega) (by omega)
  ·exact key _ (by omega) (by omega)
 ·split
  ·refine⟨by simp[ByteArray.size],by simp[ByteArray.size],?_⟩;intro x hx;simp only[List.mem_cons,List.not_mem_nil,or_false] at hx;rcases hx with rfl|rfl|rfl
   ·exact key _ (by omega) (by omega)
   ·exact key _ (by omega) (by omega)
   ·exact key _ (by omega) (by omega)
  ·refine⟨by simp[ByteArray.size],by simp[ByteArray.size],?_⟩;intro x hx;simp only[List.mem_cons,List.not_mem_nil,or_false] at hx;rcases hx with rfl|rfl|rfl|rfl
   ·exact key _ (by omega) (by omega)
   ·exact key _ (by omega) (by omega)
   ·exact key _ (by omega) (by omega)
   ·exact key _ (by omega) (by omega)
end
section
open Go.RowKit Go.Shelf
set_option maxRecDepth 20000
theorem Ey (w:ag):au 261 #[.string ⟨#[35,46,91]⟩,.int .i32 65533] w fun e w'=>e=.returned (aa (-1))/\Below w.heap.size w w':=by
 go_enter func261,ntmps261;go_wp2_with fail
 go_loopg [5,6] 3 (fun g _ _ wx=>∃i:Nat,i+g=3/\wx=w.iter ⟨#[35,46,91]⟩ i)
 case atStart=>exact⟨0,by omega,rfl⟩
 case round=>
  obtain⟨i,hig,rfl⟩:=hrel;cases gk with
  |zero=>
   obtain rfl:i=3:=by omega
   have hnx:=run_next_end (P:=prog) w ⟨#[35,46,91]⟩ 3;go_wp2;go_ret;exact⟨rfl,(aG _ _).alloc ai _⟩
  |succ g=>
   have hi:i<(⟨#[35,46,91]⟩:aC).size:=by
    show i<3;omega
   have hnx:=fun ty=>run_next_ascii (P:=prog) w ⟨#[35,46,91]⟩ i ty hi (by
    have:i=0\/i=1\/i=2:=by omega
    rcases this with rfl|rfl|rfl
    ·exact(by decide:(35:UInt8).toNat<128)
    ·exact(by decide:(46:UInt8).toNat<128)
    ·exact(by decide:(91:UInt8).toNat<128))
   obtain⟨x,hx⟩:∃x:UInt8,(⟨#[35,46,91]⟩:aC)[i]'hi=x:=⟨_,rfl⟩;have hxe:((x.toNat:Int)==65533)=false:=by
    rw[beq_eq_false_iff_ne];have:=x.toNat_lt;omega
   rw[hx] at hnx;clear hx;go_wp2
   go_roundg g
   case measure=>omega
   case rel=>exact⟨i+1,by omega,rfl⟩
theorem a1P (x c:UInt8)(h:128<=x.toNat)(hc:c.toNat<128):((c.toNat:Int) !=(x.toNat:Int))=true:=by
 simp only[bne_iff_ne,ne_eq];omega
theorem a1Q (l:List UInt8)(x:UInt8)(h:128<=x.toNat)(hl:∀c∈l,c.toNat<128):Lib.indexByte l x= -1:=by
 have h1:=Lib.contains_iff_indexByte l x;have h2:l.contains x=false:=by
  rw[Bool.eq_false_iff];intro h3;have:=hl x (by simpa using h3);omega
 rw[h2] at h1;have h3:=of_decide_eq_false h1.symm;have h4:=Lib.indexByte_ge l x;omega
theorem Ez (S:aC)(hS:∀c∈S.data.toList,c.toNat<128)(r:Int)(h1:128<=r)(he:r≠65533)(w:ag):au 261 #[.string S,.int .i32 r] w fun e w'=>e=.returned (aa (-1))/\Below w.heap.size w w':=by
 have he':(r==65533)=false:=by rw[beq_eq_false_iff_ne];exact he
 have VR:=Tryz.utf8_ValidRune r w;have hl:¬r<128:=by omega
 have h0:0<=r:=by omega
 cases hv:Lib.validRune r with
 |false=>
  rw[hv] at VR;go_enter func261,ntmps261;go_wp2_with(go_at_call 289;refine VR.mono ?_;rintro e w1 ⟨rfl,h⟩;rw[h];clear h);go_ret;exact⟨rfl,aG _ _⟩
 |true=>
  rw[hv] at VR;obtain⟨s1,s2,s3⟩:=LH r h1;obtain⟨E,hE⟩:∃E,Utf8.encode r=E:=⟨_,rfl⟩;rw[hE] at s1 s2 s3;have HE:=aj hE;clear hE;go_enter func261,ntmps261;go_wp2_with(go_at_call 289;refine VR.mono ?_;rintro e w1 ⟨rfl,h⟩;rw[h];clear h)
  go_step3
  go_upto_region 2 with fail;rw[HE.out];obtain⟨L,hL⟩:∃L:Nat,(E.size:Int)-1=L:=⟨E.size-1,by omega⟩;have hLE:L<E.size:=by omega
  have al3:(L:Int)<(E.size:Int):=by omega
  obtain⟨x,hx⟩:∃x:UInt8,E[L]'hLE=x:=⟨_,rfl⟩;have hx8:128<=x.toNat:=by
   refine s3 x ?_;rw[<- hx];simp[ByteArray.getElem_eq_getElem_data]
  clear s3 HE VR;go_wp2_with fail
  go_loopw [9,10] (fun y9 y10 wr=>y9=aa (L:Nat)/\y10=aa 0/\wr=w) (fun _ _ _=>0)
  case atStart=>exact⟨rfl,rfl,rfl⟩
  case round=>
   obtain⟨rfl,rfl,hwr⟩:=hrel;rw[hwr];clear hwr;by_cases hL3:L<S.size
   ·have hL3':(L:Int)<(S.size:Int):=by omega
    obtain⟨K1,hK1⟩:∃K1:Nat,(L:Int)+1=K1:=⟨L+1,by omega⟩;have hK2:(K1:Int)<=(S.size:Int):=by omega
    obtain⟨y,hy⟩:∃y:UInt8,S[L]'hL3=y:=⟨_,rfl⟩;have hy8:y.toNat<128:=by
     refine hS y ?_;rw[<- hy];simp[ByteArray.getElem_eq_getElem_data]
    have hne:=a1P x y hx8 hy8;have IB:∀V,au 66 #[.string (S.extract K1 S.size),.int .u8 x.toNat] V fun e w'=>e=.returned (aa (-1))/\w'=V:=fun V=>by
     have h:=Tryz.strings_IndexByte (S.extract K1 S.size) x.toNat V;rw[show((x.toNat:Int)).toNat.toUInt8=x from by simp,a1Q _ x hx8 (by
      intro c hc;refine hS c ?_;simp only[ByteArray.data_extract,Array.toList_extract] at hc;exact List.mem_of_mem_drop (List.mem_of_mem_take hc))] at h
     exact h
    have hwk:IntKind.i64.wrap (K1:Int)=(K1:Int):=IntWalk.i64_in _ (by omega);go_wp2_with fail
    go_step3
    go_upto_region 6 with fail;go_region;go_upto_region 7 with fail
    go_region_with ((go_at_call 66;refine(IB _).mono ?_;rintro e w2 ⟨rfl,h⟩;rw[h];clear h))
    go_wp2_with fail;rw[Exit.noGoto_ret];go_wp2_with fail;rw[Exit.noGoto_ret];go_wp2_with fail;go_ret;exact⟨rfl,(aG _ w).drew.drew⟩
   ·have hL3':¬(L:Int)<(S.size:Int):=by omega
    go_wp2_with fail;go_ret;exact⟨rfl,aG _ _⟩
theorem Cz (r:Int)(h1:128<=r)(w:ag):au 261 #[.string ⟨#[35,46,91]⟩,.int .i32 r] w fun e w'=>e=.returned (aa (-1))/\Below w.heap.size w w':=by
 by_cases he:r=65533
 ·subst he;exact Ey w
 ·exact Ez ⟨#[35,46,91]⟩ (by intro c hc;simp at hc;rcases hc with rfl|rfl|rfl<;>decide) r h1 he w
end
section
open Go.RowKit Go.Shelf
set_option maxRecDepth 1000000
theorem wT {w v:ag}(h:Below w.heap.size w v)(k:Nat)(hk:w.heap.size<=k)(S:aC)(p:Nat):Below w.heap.size w (v.iterAt k S p):=
 ⟨h.os,h.tape,h.output,by rw[Lib.iterAt_size];exact h.size,fun j hj=>(Lib.iterAt_other v k j S p (by omega)).trans (h.block j hj)⟩
theorem OB {l:Bs}{i d:Nat}(h:Lib.NoAny l [35,46,91] i)(hd:∀k x,i<=k->k<i+d->l[k]? =some x->128<=x.toNat):Lib.NoAny l [35,46,91] (i+d):=fun j b hj hb=>by
 by_cases hji:j<i
 ·exact h j b hji hb
 ·have h1:=hd j b (by omega) hj hb;rw[any_mk];unfold Tc;have ne:∀c:UInt8,c.toNat<128->(b==c)=false:=fun c hc=>by
   rw[beq_eq_false_iff_ne];intro e;subst e;omega
  rw[ne 35 (by decide),ne 46 (by decide),ne 91 (by decide)];rfl
theorem CB (s:aC)(w:ag)(h8:s.size<=8):
  au 222 #[.string s,.string ⟨#[35,46,91]⟩] w fun e w'=>e=.returned (aa (Lib.indexAny s.data.toList [35,46,91]))/\Below w.heap.size w w':=by
 have h8z:decide ((8:Int)<(s.size:Int))=false:=decide_eq_false (by omega);go_enter func222,ntmps222;go_wp2_with(go_at_call 262;refine(Tryz.strings_shouldUseASCIISet _ _).mono ?_;rintro e w' ⟨rfl,hw⟩;rw[hw,h8z]);obtain⟨KB,hKB⟩:∃KB,w.heap.size=KB:=⟨_,rfl⟩;have hst:(w.alloc (.stringIter s 0)).heap[w.heap.size]? =some (.stringIter s 0):=by
  show(w.heap.push (.stringIter s 0))[w.heap.size]? =_;exact Array.getElem?_push_size
 have hbl:Below w.heap.size w (w.alloc (.stringIter s 0)):=(aG _ w).alloc ai _;rw[hKB] at hst⊢
 go_loopg [9,10] s.size (fun g _ _ wx=>∃i:Nat,i+g=s.size/\wx.heap[KB]? =some (.stringIter s i)/\Below w.heap.size w wx/\Lib.NoAny s.data.toList [35,46,91] i)
 case atStart=>exact⟨0,by omega,hst,hbl,Lib.NoAny.zero _ _⟩
 case round=>
  obtain⟨i,hig,hit,hbx,hno⟩:=hrel;have HN:=aj hno;clear hno;cases gk with
  |zero=>
   obtain rfl:i=s.size:=by omega
   have hnx:=fun ty=>Lib.run_next_end_at (P:=prog) wr KB s s.size ty hit (by omega);go_wp2;go_ret;exact⟨by rw[Lib.indexAny_none (by rw[<- Lib.size_eq];exact HN.out)];rfl,hbx⟩
  |succ g=>
   have hi:i<s.size:=by omega
   obtain⟨x,hx⟩:∃x:UInt8,s[i]'hi=x:=⟨_,rfl⟩;have hxl:s.data.toList[i]? =some x:=by rw[<- hx];exact Lib.data_getElem? s i hi
   have HX:=aj hxl;by_cases h128:x.toNat<128
   ·have hnx:=fun ty=>Lib.run_next_ascii_at (P:=prog) wr KB s i ty hit hi (by rw[hx];exact h128);rw[hx] at hnx;have hit2:=Lib.iterAt_heap wr KB s i (i+1) hit;have hb2:=wT hbx KB (by omega) s (i+1);obtain⟨U,hU⟩:∃U,wr.iterAt KB s (i+1)=U:=⟨_,rfl⟩;rw[hU] at hit2 hb2 hnx;have IR:=Tryz.strings_IndexRune_ascii ⟨#[35,46,91]⟩ (x.toNat:Int) U (by omega) (by omega);have hback:((x.toNat:Int)).toNat.toUInt8=x:=by simp
    rw[hback] at IR;have hcon:=Lib.contains_iff_indexByte [35,46,91] x;clear hx hxl hU hback;cases hin:([35,46,91]:List UInt8).contains x with
    |false=>
     rw[hin] at hcon;have hlt:¬((0:Int)<=Lib.indexByte [35,46,91] x):=of_decide_eq_false hcon.symm;have IR':au 261 #[.string ⟨#[35,46,91]⟩,.int .i32 x.toNat] U fun e w'=>e=.returned (aa (Lib.indexByte [35,46,91] x))/\w'=U:=IR;obtain⟨ib,hib⟩:∃ib,Lib.indexByte [35,46,91] x=ib:=⟨_,rfl⟩;rw[hib] at IR' hlt;clear hcon IR hib;go_wp2_with(go_at_call 261;refine IR'.mono ?_;rintro e w2 ⟨rfl,h⟩;rw[h];clear h)
     go_roundg g
     case measure=>omega
     case rel=>exact⟨i+1,by omega,hit2,hb2,HN.out.succ HX.out hin⟩
    |true=>
     rw[hin] at hcon;have hge:(0:Int)<=Lib.indexByte [35,46,91] x:=of_decide_eq_true hcon.symm;have IR':au 261 #[.string ⟨#[35,46,91]⟩,.int .i32 x.toNat] U fun e w'=>e=.returned (aa (Lib.indexByte [35,46,91] x))/\w'=U:=IR;obtain⟨ib,hib⟩:∃ib,Lib.indexByte [35,46,91] x=ib:=⟨_,rfl⟩;rw[hib] at IR' hge;clear hcon IR hib;go_wp2_with(go_at_call 261;refine IR'.mono ?_;rintro e w2 ⟨rfl,h⟩;rw[h];clear h);go_ret;exact⟨by rw[Lib.indexAny_hit HN.out HX.out hin];rfl,hb2⟩
   ·have hnx:=fun ty=>Lib.run_next_any_at (P:=prog) wr KB s i ty hit hi;have hd1:=decode_high s i hi (by rw[hx];omega);have hd2:=zB s i hi (by rw[hx];omega);have hd3:=LG s i hi;have a5N:Lib.NoAny s.data.toList [35,46,91] (i+(Utf8.decode s i).2):=OB HN.out (fun k c h1 h2 h3=>by
     by_cases hk:k=i
     ·rw[hk,hxl] at h3;cases h3;omega
     ·obtain⟨d,rfl⟩:∃d,k=i+d:=⟨k-i,by omega⟩;have h4:=hd2 d (by omega) (by omega);have h5:=Lib.data_getElem? s (i+d) h4.1;rw[h3] at h5;rw[dP h5];have h6:=get_at s (i+d) h4.1;rw[Nat.add_zero] at h6;rw[h6] at h4;exact h4.2)
    obtain⟨d,hd⟩:∃d,(Utf8.decode s i).2=d:=⟨_,rfl⟩;obtain⟨rr,hr⟩:∃rr,(Utf8.decode s i).1=rr:=⟨_,rfl⟩;rw[hd] at hnx hd1 hd3 a5N;rw[hr] at hnx hd1;have HN2:=aj a5N;have hit2:=Lib.iterAt_heap wr KB s i (i+d) hit;have hb2:=wT hbx KB (by omega) s (i+d);obtain⟨U,hU⟩:∃U,wr.iterAt KB s (i+d)=U:=⟨_,rfl⟩;rw[hU] at hit2 hb2 hnx;have IR:=Cz (rr:Int) (by omega) U;clear hx hxl hU hd hr hd2 a5N;go_wp2_with(go_at_call 261;refine IR.mono ?_;rintro e w2 ⟨rfl,b2⟩)
    go_roundg (s.size-(i+d))
    case measure=>omega
    case rel=>exact⟨i+d,by omega,(b2.block KB (cZ.1 hit2).1).trans hit2,hb2.trans (b2.mono hb2.size),HN2.out⟩
theorem a5O:∀w:ag,(zeroValue 357).run prog w=.ok (.agg (Array.replicate 256 (.bool false))) w:=fun w=>by kernel_rfl
theorem Ii (s:Bs)(hs:s.length<=1000000)(w:ag):
  au 222 #[.string ⟨s.toArray⟩,.string ⟨#[35,46,91]⟩] w fun e w'=>e=.returned (aa (Lib.indexAny s [35,46,91]))/\Below w.heap.size w w':=by
 by_cases h8:s.length<=8
 ·exact CB ⟨s.toArray⟩ w (by rw[fF];exact h8)
 ·refine(Tryz.strings_IndexAny_long a5O ⟨s.toArray⟩ ⟨#[35,46,91]⟩ w (by decide) (by rw[fF];omega) (by rw[fF];omega) (by decide) (fun j b hb=>?_)).mono fun e w' h=>⟨h.1,?_⟩
  ·have hm:=fV hb;simp at hm;rcases hm with rfl|rfl|rfl<;>decide
  ·rw[h.2];exact((aG _ _).alloc ai _).alloc (by simp) _
end
section
open Go.RowKit Go.Shelf
set_option maxRecDepth 100000
attribute [local go_sem] Oper.semAt_some
theorem rH (s:Bs)(w:ag):au 176 #[bV s] w fun e w'=>e=.returned (.func (.func 221) #[] #[ay w.heap.size])/\w'=w.alloc (.cells #[bV s] 9):=by
 go_enter func176,ntmps176;go_wp2;go_ret;exact⟨rfl,rfl⟩
abbrev PtB:={x:UInt8×Bs//x.2.length<=1000000}
abbrev vz (l:List PtB):List (UInt8×Bs):=l.map Subtype.val
abbrev ptV (x:PtB):Array ah:=#[.int .u8 x.1.1.toNat,bV x.1.2]
theorem yj (s:Bs)(hs:s.length<=1000000)(n:Nat)(B:Nat)(w0:ag)(hB:w0.heap[B]? =some (.cells #[bV s] 9)):
  SeqStopsK Fence.wide n prog 221 #[ay B] ptV (qL B) (fun xs=>vz xs=pts 0 s) (fun p=>vz p<+:pts 0 s) (pts 0 s).length w0:=by
 intro l J Jx W hW hJ hJx hY h0;have hBl:B<w0.heap.size:=(cZ.1 hB).1;have hBW:W.heap[B]? =some (.cells #[bV s] 9):=(hW.block B hBl).trans hB;have c0:W.cell? (ak B 0)=some (bV s):=by simp[World.cell?,hBW]
 have hJb:∀p A C,J p A->Below A.heap.size A C->J p C:=fun p A C h hb=>hJ p A C none h (rG hb) (fun r e=>by cases e);refine callsIn_of_wp func221 rfl trivial ?_ rfl;simp only[ntmps221,List.size_toArray,List.length_cons,List.length_nil,Nat.reduceAdd,Nat.reduceSub,Array.replicate_succ,Array.replicate_zero,List.push_toArray,List.append_toArray,List.nil_append,List.cons_append]
 gi_wp2
 gi_region
 gi_wp2
 gi_loopw [3,4] (fun y3 y4 wr=>∃(pre:List PtB) (k:UInt8) (t:Bs),t.length<=1000000/\vz pre++pts k t=pts 0 s/\y3=.int .u8 k.toNat/\y4=bV t/\J pre wr/\qL B W wr) (fun _ y4 _=>Lx y4)
 case atStart=>exact⟨[],0,s,hs,rfl,rfl,rfl,hJb _ _ _ h0 (aG _ _).drew,rfl⟩
 case round=>
  obtain⟨pre,k,t,htl,hps,rfl,rfl,hJp,hKp⟩:=hrel;have IA:=Ii t htl wr;cases hf:fE t with
  |none=>
   rw[any_none hf] at IA;rw[Ww hf] at hps;have hpl:pre.length<(pts 0 s).length:=by
    rw[<- hps,List.length_append,List.length_cons,List.length_map];omega
   have hnl:(lZ k t).length<=1000000:=aJ (JL k t) htl;have OA:=aj hps;have hNI:∀V,au 223 #[.int .u8 k.toNat,bV t] V fun e w'=>e=.returned (bV (lZ k t))/\w'=V:=fun V=>Cy k t htl V;have hYx:∀W1,J pre W1->YieldAt Fence.wide (n-1) prog l #[.int .u8 k.toNat,bV (lZ k t)] W1 fun e W'=>(e=.returned (.bool true)/\J (pre++[⟨(k,lZ k t),hnl⟩]) W'/\qL B W1 W')\/(e=.returned (.bool false)/\Jx (pre++[⟨(k,lZ k t),hnl⟩]) W'):=fun W1 h=>hY pre ⟨(k,lZ k t),hnl⟩ W1 h hpl;revert hnl OA hNI hYx;generalize lZ k t=nm;intro hnl OA hNI hYx;clear hps hf
   gi_wp2_with (first|(refine⟨trivial,(fun h=>by cases h),?_⟩;gi_at_call 222;refine(callsIn_wide.2 IA).mono ?_;rintro e w1 ⟨rfl,hb1⟩)|(refine⟨trivial,(fun h=>by cases h),?_⟩;gi_at_call 223;refine(callsIn_wide.2 (hNI _)).mono ?_;rintro e w2 ⟨rfl,h⟩;rw[h];clear h;obtain⟨fn,tmps,assign,body,hy,hR⟩:=hYx w1 (hJb _ _ _ hJp hb1)))
   refine⟨(fun h=>by cases h),hR.mono ?_⟩;rintro e W3 (⟨rfl,hJ3,hk3⟩|⟨rfl,hJx3⟩)
   ·gi_wp2
    refine bodyPost_ret (results_none rfl _ _ _) rfl ?_;exact⟨⟨_,rfl⟩,.inl ⟨_,by rw[<- OA.out];simp,hJ3⟩⟩
   ·gi_wp2
    refine bodyPost_ret (results_none rfl _ _ _) rfl ?_;exact⟨⟨_,rfl⟩,.inr ⟨_,by rw[<- OA.out];simp,hJx3⟩⟩
  |some x=>
   obtain⟨a,m,r⟩:=x;rw[any_some hf] at IA;rw[JK hf] at hps;have hpl:pre.length<(pts 0 s).length:=by
    rw[<- hps,List.length_append,List.length_cons,List.length_map];omega
   obtain⟨h1, -, -⟩:=pg hf;have hlen:t.length=a.length+(r.length+1):=by rw[h1];simp
   have hal:a.length<=1000000:=by omega
   have hsz:(⟨t.toArray⟩:aC).size=t.length:=fF t;have hua:(a.length:Int)<=((⟨t.toArray⟩:aC).size:Int):=by rw[hsz];omega
   have hub:(a.length:Int)<((⟨t.toArray⟩:aC).size:Int):=by rw[hsz];omega
   have adR:a.length<(⟨t.toArray⟩:aC).size:=by rw[hsz];omega
   have hmi:(⟨t.toArray⟩:aC)[a.length]'adR=m:=by
    subst h1;simp[ByteArray.getElem_eq_getElem_data]
   have al5:¬(a.length:Int)<0:=by omega
   obtain⟨K1,hK1⟩:∃K1:Nat,(a.length:Int)+1=K1:=⟨a.length+1,by omega⟩;have al6:(a.length:Int)<(t.length:Int):=by omega
   have hK3:(K1:Int)<=(t.length:Int):=by omega
   have hwk:IntKind.i64.wrap (K1:Int)=(K1:Int):=IntWalk.i64_in _ (by omega);have HDR:Hid ((⟨t.toArray⟩:aC).extract K1 t.length=⟨r.toArray⟩):=(by
    rw[show K1=a.length+1 from by omega,h1];exact R6 a r m _ rfl:(⟨t.toArray⟩:aC).extract K1 t.length=⟨r.toArray⟩)
   have hNI:∀V,au 223 #[.int .u8 k.toNat,.string ((⟨t.toArray⟩:aC).extract 0 a.length)] V fun e w'=>e=.returned (bV (lZ k a))/\w'=V:=fun V=>by
    rw[show(⟨t.toArray⟩:aC).extract 0 a.length=⟨a.toArray⟩ from by rw[h1];exact Ig a (m::r)];exact Cy k a hal V
   have hnl:(lZ k a).length<=1000000:=aJ (JL k a) hal;have hYx:∀W1,J pre W1->YieldAt Fence.wide (n-1) prog l #[.int .u8 k.toNat,bV (lZ k a)] W1 fun e W'=>(e=.returned (.bool true)/\J (pre++[⟨(k,lZ k a),hnl⟩]) W'/\qL B W1 W')\/(e=.returned (.bool false)/\Jx (pre++[⟨(k,lZ k a),hnl⟩]) W'):=fun W1 h=>hY pre ⟨(k,lZ k a),hnl⟩ W1 h hpl;have OA:=aj hps;have JD:Hid (r.length<t.length):=(by omega:r.length<t.length);revert hnl OA hNI hYx;generalize lZ k a=nm;intro hNI hnl hYx OA;clear hps hf h1 hlen hsz
   gi_wp2_with (first|(refine⟨trivial,(fun h=>by cases h),?_⟩;gi_at_call 222;refine(callsIn_wide.2 IA).mono ?_;rintro e w1 ⟨rfl,hb1⟩)|(refine⟨trivial,(fun h=>by cases h),?_⟩;gi_at_call 223;refine(callsIn_wide.2 (hNI _)).mono ?_;rintro e w2 ⟨rfl,h⟩;rw[h];clear h;obtain⟨fn,tmps,assign,body,hy,hR⟩:=hYx w1 (hJb _ _ _ hJp hb1)))
   refine⟨(fun h=>by cases h),hR.mono ?_⟩;rintro e W3 (⟨rfl,hJ3,hk3⟩|⟨rfl,hJx3⟩)
   ·gi_wp2
    gi_region
    gi_wp2
    go_roundw
    case rel=>exact⟨pre++[⟨(k,nm),hnl⟩],m,r,by have:=JD.out;omega,by rw[<- OA.out];simp,by first|rfl|simp,by rw[HDR.out],hJb _ _ _ hJ3 (aG _ _).drew,(hKp.trans (qL.of_below hb1 (cZ.1 (Eq.trans (show wr.heap[B]? =W.heap[B]? from hKp) hBW)).1)).trans hk3⟩
    case measure=>
     rw[HDR.out,yh,yh];exact JD.out
   ·gi_wp2
    refine bodyPost_ret (results_none rfl _ _ _) rfl ?_;exact⟨⟨_,rfl⟩,.inr ⟨_,by rw[<- OA.out];exact⟨pts m r,by simp⟩,hJx3⟩⟩
end
section
open Go.RowKit Go.Shelf
set_option maxRecDepth 100000
attribute [local go_sem] Oper.semAt_some
def nI:List (UInt8×Bs)->Nat
 |[]=>0
 |x::l=>(if x.1=0 then 0 else 1)+nI l
theorem CJ (a b:List (UInt8×Bs)):nI (a++b)=nI a+nI b:=by
 induction a with
 |nil=>simp[nI]
 |cons x l ih=>rw[List.cons_append,nI,nI,ih];omega
theorem R7:∀l:List (UInt8×Bs),nI l<=l.length
 |[]=>Nat.le_refl _
 |x::l=>by
  have:=R7 l;rw[nI,List.length_cons];split<;>omega
theorem Ac:∀(f:Nat) (k:UInt8) (s:Bs),s.length<=f->(pts k s).length<=s.length+1
 |f,k,s,hf=>by
  cases hs:fE s with
  |none=>rw[Ww hs];simp
  |some x=>
   obtain⟨a,m,r⟩:=x;have hl:=qV hs;rw[JK hs,List.length_cons];have:=Ac (f-1) m r (by omega);omega
termination_by _ _ s=>s.length
def Ij (l:List (UInt8×Bs)):Prop:=∀rest,yR 0 (l++rest)=yR (nI l) rest
theorem Ij.nil:Ij []:=fun _=>rfl
theorem Ij.snoc {l:List (UInt8×Bs)}{x:UInt8×Bs}(h:Ij l)(h1:(if x.1=0 then nI l else nI l+1)<=8)(h2:NT x=true):Ij (l++[x]):=fun rest=>by
 rw[List.append_assoc,h,List.singleton_append,yR,h2,decide_eq_true h1,CJ];simp only[Bool.true_and];congr 1;unfold nI nI;split<;>omega
theorem Ij.bad {l:List (UInt8×Bs)}{x:UInt8×Bs}(h:Ij l)(hb:¬((if x.1=0 then nI l else nI l+1)<=8)\/NT x=false)(rest:List (UInt8×Bs)):yR 0 (l++[x]++rest)=false:=by
 rw[List.append_assoc,h,List.singleton_append,yR];rcases hb with hb|hb
 ·rw[decide_eq_false hb];simp
 ·rw[hb];simp
theorem gY (W:ag)(o1 o2 o3:Obj):(((W.alloc o1).alloc o2).alloc o3).heap[W.heap.size]? =some o1/\(((W.alloc o1).alloc o2).alloc o3).heap[W.heap.size+1]? =some o2/\(((W.alloc o1).alloc o2).alloc o3).heap[W.heap.size+1+1]? =some o3/\(((W.alloc o1).alloc o2).alloc o3).heap.size=W.heap.size+3/\Below W.heap.size W (((W.alloc o1).alloc o2).alloc o3):=by
 have s1:(W.alloc o1).heap.size=W.heap.size+1:=dB W o1;have s2:((W.alloc o1).alloc o2).heap.size=W.heap.size+1+1:=by rw[dB,s1]
 have n1:=dW W o1;have n2:=dW (W.alloc o1) o2;have n3:=dW ((W.alloc o1).alloc o2) o3;rw[s1] at n2;rw[s2] at n3;refine⟨(Below.heap_alloc _ _ _ (by rw[s2];omega)).trans ((Below.heap_alloc _ _ _ (by rw[s1];omega)).trans n1),(Below.heap_alloc _ _ _ (by rw[s2];omega)).trans n2,n3,by rw[dB,s2],?_⟩;exact(((aG W.heap.size W).alloc ai _).alloc (by rw[s1];omega) _).alloc (by rw[s2];omega) _
theorem iI {A C:ag}{row:Option Nat}{U k:Nat}{o:Obj}(h:A.heap[k]? =some o)(hk:k<U)(hg:A.grownBy C row)(hr:∀r,row=some r->U<=r/\∃o:Obj,A.heap[r]? =some o/\o.isCells=false):C.heap[k]? =some o:=
 (hg.block k (cZ.1 h).1 (fun e=>by have:=(hr k e.symm).1;omega)).trans h
theorem mZ {V A C:ag}{row:Option Nat}{U:Nat}(h:Below V.heap.size V A)(hU:V.heap.size<=U)(hg:A.grownBy C row)(hr:∀r,row=some r->U<=r/\∃o:Obj,A.heap[r]? =some o/\o.isCells=false):Below V.heap.size V C:=
 ⟨hg.os.trans h.os,hg.tape.trans h.tape,hg.output.trans h.output,aJ h.size hg.size,fun k hk=>(hg.block k (bI hk h.size) (fun e=>by have:=(hr k e.symm).1;omega)).trans (h.block k hk)⟩
theorem bH {w:ag}{b:Nat}{v:ah}{t:TypeId}(h:w.heap[b]? =some (.cells #[v] t)):w.cell? (ak b 0)=some v:=by simp[World.cell?,h]
theorem gI {w:ag}{b:Nat}{v:ah}{t:TypeId}(h:w.heap[b]? =some (.cells #[v] t)):w.frozen? ⟨b,0,none⟩=false:=by
 unfold World.frozen?;rw[h];simp
theorem gZ {w:ag}{b:Nat}{v:ah}{t:TypeId}(h:w.heap[b]? =some (.cells #[v] t))(u:ah):(w.setCell ⟨b,0,none⟩ u).heap[b]? =some (.cells #[u] t):=by
 rw[heap_setCell_same w b 0 _ _ _ h];rfl
theorem Ui (s:Bs)(hs:s.length<=1000000)(W:ag):CallsIn Fence.wide 9 prog 129 #[bV s] W fun e w'=>e=.returned (.bool (uh s))/\Below W.heap.size W w':=by
 obtain⟨hR0,hC0,hB0,hsz0,b0⟩:=gY W (.cells #[.bool false] 4) (.cells #[aa 0] 3) (.cells #[bV s] 9);refine callsIn_of_wp_marks func129 rfl trivial ?_ rfl;simp only[ntmps129,List.size_toArray,List.length_cons,List.length_nil,Nat.reduceAdd,Nat.reduceSub,Array.replicate_succ,Array.replicate_zero,List.push_toArray,List.append_toArray,List.nil_append,List.cons_append]
 gi_wp2_with (refine⟨trivial,?_⟩;gi_at_call 176;refine(callsIn_wide.2 (rH s _)).mono ?_;rintro e w1 ⟨rfl,h1⟩;rw[h1];clear h1)
 obtain⟨U,hU⟩:∃U,(((W.alloc (.cells #[.bool false] 4)).alloc (.cells #[aa 0] 3)).alloc (.cells #[bV s] 9))=U:=⟨_,rfl⟩;rw[hU] at b0 hR0 hC0 hB0 hsz0⊢;clear hU;refine wpIn_rangeFunc_ownF rfl (by omega) (gf:=221) (lb:=#[.pointer (some ⟨W.heap.size+1+1,0,none⟩)]) rfl trivial (enters_of func221 (by kernel_rfl) rfl)
  (encs:=ptV) (Kp:=qL (W.heap.size+1+1)) (S:=fun xs=>vz xs=pts 0 s) (Sp:=fun p=>vz p<+:pts 0 s) (N:=(pts 0 s).length) (w0:=U)
  (yj s hs _ _ U hB0) qL.trans (fun X l o o' hl h1 h2 h3=>qL.put (w:=U) (by omega) X l o o' hl h1 h2 h3) (aG _ _) (fun _=>rfl)
  (fun pre X=>X.heap[W.heap.size+1]? =some (.cells #[aa (nI (vz pre):Nat)] 3)/\X.heap[W.heap.size]? =some (.cells #[.bool false] 4)/\Below W.heap.size W X/\Ij (vz pre))
  (fun c pre X=>c=.ret/\(∀rest,yR 0 (vz pre++rest)=false)/\X.heap[W.heap.size]? =some (.cells #[.bool false] 4)/\Below W.heap.size W X)
  (fun pre A C row hs hg hr=>⟨iI hs.1 (by omega) hg hr,iI hs.2.1 (by omega) hg hr,mZ hs.2.2.1 (by omega) hg hr,hs.2.2.2⟩)
  (fun c pre A C row hs hg hr=>⟨hs.1,hs.2.1,iI hs.2.2.1 (by omega) hg hr,mZ hs.2.2.2 (by omega) hg hr⟩)
  ⟨hC0,hR0,b0,Ij.nil⟩
  (fun x=>{tmps:=#[bV s,undef,ay W.heap.size,.pointer (some ⟨W.heap.size+1,0,none⟩),.int .u8 x.1.1.toNat,bV x.1.2,bV s,.func (.func 221) #[] #[.pointer (some ⟨W.heap.size+1+1,0,none⟩)],.int .u8 x.1.1.toNat,bV x.1.2,undef,undef,undef,undef,undef,undef,undef,undef,undef,undef,undef,undef,undef,undef],defers:=[]})
  ?assign ?body ?done ?stop
 case assign=>
  intro l x X K hK
  gi_wp2
  exact hK
 case body=>
  rintro l pre x X ⟨hc,hr,hb,hok⟩ hlen;obtain⟨⟨k,nm⟩,hnl⟩:=x;have c1:=bH hc;have f1:=gI hc;have c2:=bH hr;have f2:=gI hr;have hcl:nI (vz pre)<=1000001:=by
   have h1:=R7 (vz pre);have h2:=Ac s.length 0 s ai;rw[List.length_map] at h1;omega
  have hpe:vz (pre++[⟨(k,nm),hnl⟩])=vz pre++[(k,nm)]:=by simp
  have IP:=fun V=>Oz k nm hnl V;have h0:((k.toNat:Int)==0)=(k==0):=wS k 0;have hn0:((k.toNat:Int) !=0)= !(k==0):=by rw[bne,h0]
  obtain⟨c,hcn⟩:∃c,nI (vz pre)=c:=⟨_,rfl⟩;rw[hcn] at c1 hc hcl;have HCN:=aj hcn;clear hcn h0;have adS:¬W.heap.size=W.heap.size+1:=by omega
  by_cases hk:k=0
  ·have hk':(k==0)=true:=by rw[hk];rfl
   rw[hk'] at hn0;have HK:=aj hk;clear hk;by_cases h8:8<c
   ·have h8':8<(c:Int):=by omega
    gi_wp2
    refine⟨trivial,?_⟩
    gi_wp2
    exact⟨eF _ _ _,rfl,fun rest=>by rw[hpe];exact hok.bad (.inl (by rw[if_pos HK.out,HCN.out];omega)) rest,gZ hr _,hb.setCell ai _⟩
   ·have h8':¬8<(c:Int):=by omega
    cases hp:NT (k,nm) with
    |true=>
     rw[hp] at IP
     gi_wp2_with (refine⟨trivial,?_⟩;gi_at_call 177;refine(CallsIn.inRound l (callsIn_wide.2 (IP _))).mono ?_;rintro e w2 ⟨rfl,h⟩;rw[h];clear h)
     exact⟨KeepsOthers.refl _,rfl,by rw[hpe,CJ,HCN.out];simp only[nI,if_pos HK.out];exact hc,hr,hb,by rw[hpe];exact hok.snoc (by rw[if_pos HK.out,HCN.out];omega) hp⟩
    |false=>
     rw[hp] at IP
     gi_wp2_with (refine⟨trivial,?_⟩;gi_at_call 177;refine(CallsIn.inRound l (callsIn_wide.2 (IP _))).mono ?_;rintro e w2 ⟨rfl,h⟩;rw[h];clear h)
     exact⟨eF _ _ _,rfl,fun rest=>by rw[hpe];exact hok.bad (.inr hp) rest,gZ hr _,hb.setCell ai _⟩
  ·have hk':(k==0)=false:=by rw[beq_eq_false_iff_ne];exact hk
   rw[hk'] at hn0;have hc1:=gZ hc (aa ((c:Int)+1));have hr1:(X.setCell ⟨W.heap.size+1,0,none⟩ (aa ((c:Int)+1))).heap[W.heap.size]? =some (.cells #[.bool false] 4):=(aY _ _ _ W.heap.size (fun e=>adS e)).trans hr;have hb1:Below W.heap.size W (X.setCell ⟨W.heap.size+1,0,none⟩ (aa ((c:Int)+1))):=hb.setCell (by simp only;omega) _;have hk1:qL (W.heap.size+1+1) X (X.setCell ⟨W.heap.size+1,0,none⟩ (aa ((c:Int)+1))):=aY _ _ _ _ (by simp only;omega);by_cases h8:8<c+1
   ·have h8':8<(c:Int)+1:=by omega
    gi_wp2
    refine⟨trivial,?_⟩
    gi_wp2
    exact⟨(eF _ _ _).trans (eF _ _ _),rfl,fun rest=>by rw[hpe];exact hok.bad (.inl (by rw[if_neg hk,HCN.out];omega)) rest,gZ hr1 _,hb1.setCell ai _⟩
   ·have h8':¬8<(c:Int)+1:=by omega
    cases hp:NT (k,nm) with
    |true=>
     rw[hp] at IP
     gi_wp2_with (refine⟨trivial,?_⟩;gi_at_call 177;refine(CallsIn.inRound l (callsIn_wide.2 (IP _))).mono ?_;rintro e w2 ⟨rfl,h⟩;rw[h];clear h)
     exact⟨eF _ _ _,hk1,by rw[hpe,CJ,HCN.out];simp only[nI,if_neg hk];exact hc1,hr1,hb1,by rw[hpe];exact hok.snoc (by rw[if_neg hk,HCN.out];omega) hp⟩
    |false=>
     rw[hp] at IP
     gi_wp2_with (refine⟨trivial,?_⟩;gi_at_call 177;refine(CallsIn.inRound l (callsIn_wide.2 (IP _))).mono ?_;rintro e w2 ⟨rfl,h⟩;rw[h];clear h)
     exact⟨(eF _ _ _).trans (eF _ _ _),rfl,fun rest=>by rw[hpe];exact hok.bad (.inr hp) rest,gZ hr1 _,hb1.setCell ai _⟩
 case done=>
  rintro D xs X hD hS ⟨hc,hr,hb,hok⟩ hK;have hv:uh s= !s.isEmpty:=by
   have h1:=hok [];rw[hS,List.append_nil] at h1;unfold uh;rw[show qp s=pts 0 s from rfl,h1];cases s<;>rfl
  have c2:=bH hr;have f2:=gI hr
  gi_wp2
  have hK':=(eF X ⟨W.heap.size,0,none⟩ (.bool !s.isEmpty)).same D _ hK rfl;refine⟨by simp,.inl ⟨_,_,rfl,run_takeDeferred hK',?_⟩⟩;have hr2:=gZ hr (.bool !s.isEmpty);have hr3:=(World.putObj_heap_other (w:=X.setCell ⟨W.heap.size,0,none⟩ (.bool !s.isEmpty)) (o:=.deferred none) (show W.heap.size≠D by omega)).trans hr2;have oc:=bH hr3;refine⟨.bool !s.isEmpty,?_,by rw[hv],(hb.setCell ai _).trans (belowK_b (w:=W) ai _ D _ _ (by omega) hK' rfl rfl)⟩;simp[results,results129,go_sem,oc]
 case stop=>
  rintro D c pre X hD hpre ⟨rfl,hbad,hr,hb⟩ hK;have hv:uh s=false:=by
   obtain⟨rest,hrest⟩:=hpre;have h1:=hbad rest;rw[hrest] at h1;unfold uh;rw[show qp s=pts 0 s from rfl,h1];rfl
  gi_wp2
  refine⟨by simp,.inl ⟨_,_,rfl,run_takeDeferred hK,?_⟩⟩;have hr3:=(World.putObj_heap_other (w:=X) (o:=.deferred none) (show W.heap.size≠D by omega)).trans hr;have oc:=bH hr3;refine⟨.bool false,?_,by rw[hv],hb.trans (belowK_b (w:=W) ai X D _ _ (by omega) hK rfl rfl)⟩;simp[results,results129,go_sem,oc]
theorem OD (s:Bs)(hs:s.length<=1000000)(W:ag):au 129 #[bV s] W fun e w'=>e=.returned (.bool (uh s))/\Below W.heap.size W w':=callsIn_wide.1 (Ui s hs W)
end
section
open Go.RowKit Go.Shelf
set_option maxRecDepth 100000
attribute [local go_sem] Oper.semAt_some
theorem zC (W:ag)(o0 o1 o2 o3:Obj):((((W.alloc o0).alloc o1).alloc o2).alloc o3).heap[W.heap.size]? =some o0/\((((W.alloc o0).alloc o1).alloc o2).alloc o3).heap[W.heap.size+1]? =some o1/\((((W.alloc o0).alloc o1).alloc o2).alloc o3).heap[W.heap.size+1+1]? =some o2/\((((W.alloc o0).alloc o1).alloc o2).alloc o3).heap[W.heap.size+1+1+1]? =some o3/\((((W.alloc o0).alloc o1).alloc o2).alloc o3).heap.size=W.heap.size+4/\Below W.heap.size W ((((W.alloc o0).alloc o1).alloc o2).alloc o3):=by
 obtain⟨h1,h2,h3,h4,h5⟩:=gY (W.alloc o0) o1 o2 o3;have s0:(W.alloc o0).heap.size=W.heap.size+1:=dB W o0;rw[s0] at h1 h2 h3 h4;have n0:=dW W o0;refine⟨(h5.block _ (by rw[s0];omega)).trans n0,h1,h2,h3,h4,?_⟩;exact((aG W.heap.size W).alloc ai _).trans (h5.mono (by rw[s0];omega))
theorem sQ {A C:ag}(h:Below A.heap.size A C):KeepsOthers A C:=⟨h.size,fun l _ ho _=>(h.block l (cZ.1 ho).1).trans ho⟩
theorem eX {A C:ag}(h:Below A.heap.size A C){k:Nat}{o:Obj}(ho:A.heap[k]? =some o):C.heap[k]? =some o:=(h.block k (cZ.1 ho).1).trans ho
def OkS (l:List Bs):Prop:=∀rest,yS 0 (l++rest)=yS l.length rest
theorem OkS.nil:OkS []:=fun _=>rfl
theorem OkS.snoc {l:List Bs}{x:Bs}(h:OkS l)(h1:l.length+1<=5)(h2:uh x=true):OkS (l++[x]):=fun rest=>by
 rw[List.append_assoc,h,List.singleton_append,yS,h2,decide_eq_true h1,List.length_append,List.length_singleton];simp only[Bool.true_and]
theorem OkS.bad {l:List Bs}{x:Bs}(h:OkS l)(hb:¬l.length+1<=5\/uh x=false)(rest:List Bs):yS 0 (l++[x]++rest)=false:=by
 rw[List.append_assoc,h,List.singleton_append,yS];rcases hb with hb|hb
 ·rw[decide_eq_false hb];simp
 ·rw[hb];simp
theorem lF:∀(f:Nat) (s:Bs),(nu f s).length<=f
 |0,_=>Nat.le_refl _
 |f+1,s=>by
  rw[nu];obtain⟨a,k,b,hc⟩:∃a k b,qB s=(a,k,b):=⟨_,_,_,rfl⟩;rw[hc];cases k with
  |no=>simp
  |right=>have:=lF f a;simp only[List.length_cons];omega
  |below=>have:=lF f a;simp only[List.length_cons];omega
theorem R8 {W Z:ag}{er:ah}(hr:Z.heap[W.heap.size]? =some (.cells #[.string ⟨#[]⟩] 107))(hq:Z.heap[W.heap.size+1]? =some (.cells #[.nilIface] 26))(hb:Below W.heap.size W Z):
  KeepsOthers Z ((Z.setCell ⟨W.heap.size,0,none⟩ (.string ⟨#[]⟩)).setCell ⟨W.heap.size+1,0,none⟩ er).drew/\((Z.setCell ⟨W.heap.size,0,none⟩ (.string ⟨#[]⟩)).setCell ⟨W.heap.size+1,0,none⟩ er).drew.heap[W.heap.size]? =some (.cells #[.string ⟨#[]⟩] 107)/\((Z.setCell ⟨W.heap.size,0,none⟩ (.string ⟨#[]⟩)).setCell ⟨W.heap.size+1,0,none⟩ er).drew.heap[W.heap.size+1]? =some (.cells #[er] 26)/\Below W.heap.size W ((Z.setCell ⟨W.heap.size,0,none⟩ (.string ⟨#[]⟩)).setCell ⟨W.heap.size+1,0,none⟩ er).drew:=by
 have hr1:=gZ hr (.string ⟨#[]⟩);have hq1:(Z.setCell ⟨W.heap.size,0,none⟩ (.string ⟨#[]⟩)).heap[W.heap.size+1]? =some (.cells #[.nilIface] 26):=(aY _ _ _ _ (by simp only;omega)).trans hq;refine⟨((eF _ _ _).trans (eF _ _ _)).trans (KeepsOthers.drew _),?_,?_,?_⟩
 ·exact(aY _ _ _ _ (by simp only;omega)).trans hr1
 ·exact gZ hq1 er
 ·exact((hb.setCell (p:=⟨W.heap.size,0,none⟩) ai _).setCell (p:=⟨W.heap.size+1,0,none⟩) (by simp only;omega) _).drew
theorem Y8 (s:Bs)(hs:s.length<=1000000)(W:ag)(ea:Addr)(rv:Array ah)(hv1:pE s=true->rv=#[.agg #[bV s],.nilIface])(hv2:pE s=false->rv=#[.agg #[.string ⟨#[]⟩],.iface 401 (.pointer (some ea))])(hE:W.cell? (ak 1 0)=some (.iface 401 (.pointer (some ea)))):
  CallsIn Fence.wide 9 prog 75 #[bV s] W fun e w'=>e=.returned (.tuple rv)/\Below W.heap.size W w':=by
 obtain⟨hR0,hQ0,hC0,hB0,hsz0,b0⟩:=zC W (.cells #[.string ⟨#[]⟩] 107) (.cells #[.nilIface] 26) (.cells #[.int .i64 0] 3) (.cells #[bV s] 9);have hg:=az hE;simp only at hg;refine callsIn_of_wp_marks func75 rfl trivial ?_ rfl;simp only[ntmps75,List.size_toArray,List.length_cons,List.length_nil,Nat.reduceAdd,Nat.reduceSub,Array.replicate_succ,Array.replicate_zero,List.push_toArray,List.append_toArray,List.nil_append,List.cons_append]
 gi_wp2_with (refine⟨trivial,?_⟩;gi_at_call 128;refine(callsIn_wide.2 (zz s _)).mono ?_;rintro e w1 ⟨rfl,h1⟩;rw[h1];clear h1)
 obtain⟨U,hU⟩:∃U,((((W.alloc (.cells #[.string ⟨#[]⟩] 107)).alloc (.cells #[.nilIface] 26)).alloc (.cells #[.int .i64 0] 3)).alloc (.cells #[bV s] 9))=U:=⟨_,rfl⟩;rw[hU] at b0 hR0 hQ0 hC0 hB0 hsz0⊢;clear hU;refine wpIn_rangeFunc_ownF rfl (by omega) (gf:=174) (lb:=#[.pointer (some ⟨W.heap.size+1+1+1,0,none⟩)]) rfl trivial (enters_of func174 (by kernel_rfl) rfl)
  (encs:=fun x:StB=>#[bV x.1]) (Kp:=qL (W.heap.size+1+1+1)) (S:=fun xs=>Ga xs=gU s) (Sp:=fun p=>Ga p<+:gU s) (N:=(gU s).length) (w0:=U)
  (Gb s hs _ _ U hB0) qL.trans (fun X l o o' hl h1 h2 h3=>qL.put (w:=U) (by omega) X l o o' hl h1 h2 h3) (aG _ _) (fun _=>rfl)
  (fun pre X=>X.heap[W.heap.size+1+1]? =some (.cells #[.int .i64 (pre.length:Nat)] 3)/\X.heap[W.heap.size]? =some (.cells #[.string ⟨#[]⟩] 107)/\X.heap[W.heap.size+1]? =some (.cells #[.nilIface] 26)/\Below W.heap.size W X/\OkS (Ga pre)/\U.heap.size<=X.heap.size)
  (fun c pre X=>c=.ret/\(∀rest,yS 0 (Ga pre++rest)=false)/\X.heap[W.heap.size]? =some (.cells #[.string ⟨#[]⟩] 107)/\X.heap[W.heap.size+1]? =some (.cells #[.iface 401 (.pointer (some ea))] 26)/\Below W.heap.size W X)
  (fun pre A C row hs hg hr=>⟨iI hs.1 (by omega) hg hr,iI hs.2.1 (by omega) hg hr,iI hs.2.2.1 (by omega) hg hr,mZ hs.2.2.2.1 (by omega) hg hr,hs.2.2.2.2.1,aJ hs.2.2.2.2.2 hg.size⟩)
  (fun c pre A C row hs hg hr=>⟨hs.1,hs.2.1,iI hs.2.2.1 (by omega) hg hr,iI hs.2.2.2.1 (by omega) hg hr,mZ hs.2.2.2.2 (by omega) hg hr⟩)
  ⟨hC0,hR0,hQ0,b0,OkS.nil,Nat.le_refl _⟩
  (fun x=>{tmps:=#[bV s,undef,ay W.heap.size,.pointer (some ⟨W.heap.size+1,0,none⟩),.pointer (some ⟨W.heap.size+1+1,0,none⟩),bV x.1,bV s,.func (.func 174) #[] #[.pointer (some ⟨W.heap.size+1+1+1,0,none⟩)],bV x.1,undef,undef,undef,undef,undef,undef,undef,undef,undef,undef,undef,undef,undef],defers:=[]})
  ?assign ?body ?done ?stop
 case assign=>
  intro l x X K hK
  gi_wp2
  exact hK
 case body=>
  rintro l pre x X ⟨hc,hr,hq,hb,hok,hu⟩ hlen;obtain⟨st,hnl⟩:=x;have c1:=bH hc;have f1:=gI hc;have hcl:pre.length<=1000001:=by
   have:=lF (s.length+1) s;unfold gU at hlen;omega
  have hpe:Ga (pre++[⟨st,hnl⟩])=Ga pre++[st]:=by simp
  have hpl:(Ga pre).length=pre.length:=List.length_map _;have a9P:(pre++[(⟨st,hnl⟩:StB)]).length=pre.length+1:=by simp
  have IS:=fun V=>OD st hnl V;have HPL:=aj hpl;have adT:=aj a9P;obtain⟨c,hcn⟩:∃c,pre.length=c:=⟨_,rfl⟩;rw[hcn] at c1 hc hcl;have HCN:=aj hcn;clear hcn hpl a9P;have hc1:=gZ hc (.int .i64 ((c:Int)+1));have hr1:(X.setCell ⟨W.heap.size+1+1,0,none⟩ (.int .i64 ((c:Int)+1))).heap[W.heap.size]? =some (.cells #[.string ⟨#[]⟩] 107):=(aY _ _ _ _ (by simp only;omega)).trans hr;have hq1:(X.setCell ⟨W.heap.size+1+1,0,none⟩ (.int .i64 ((c:Int)+1))).heap[W.heap.size+1]? =some (.cells #[.nilIface] 26):=(aY _ _ _ _ (by simp only;omega)).trans hq;have hb1:Below W.heap.size W (X.setCell ⟨W.heap.size+1+1,0,none⟩ (.int .i64 ((c:Int)+1))):=hb.setCell (by simp only;omega) _;have hk1:qL (W.heap.size+1+1+1) X (X.setCell ⟨W.heap.size+1+1,0,none⟩ (.int .i64 ((c:Int)+1))):=aY _ _ _ _ (by simp only;omega);have hz1:X.heap.size<=(X.setCell ⟨W.heap.size+1+1,0,none⟩ (.int .i64 ((c:Int)+1))).heap.size:=((aG 0 X).setCell (aP _) _).size;have ko1:=eF X ⟨W.heap.size+1+1,0,none⟩ (.int .i64 ((c:Int)+1));have c1':(X.setCell ⟨W.heap.size+1+1,0,none⟩ (.int .i64 ((c:Int)+1))).cell? ⟨W.heap.size+1+1,0,none⟩=some (.int .i64 ((c:Int)+1)):=bH hc1;by_cases h5:5<c+1
  ·have h5':5<(c:Int)+1:=by omega
   gi_wp2
   refine⟨trivial,?_⟩;obtain⟨X1,hX1⟩:∃X1,X.setCell ⟨W.heap.size+1+1,0,none⟩ (.int .i64 ((c:Int)+1))=X1:=⟨_,rfl⟩;rw[hX1] at hc1 hr1 hq1 hb1 hk1 ko1 c1'⊢;clear hX1;have cR:=bH hr1;have fR:=gI hr1;have cQ:=bH hq1;have fQ:=gI hq1;have cG:=(hb1.cell hg).trans hE;have adU:¬W.heap.size=W.heap.size+1:=by omega
   have adV:¬W.heap.size+1=W.heap.size:=by omega
   gi_wp2
   have hbe:=R8 (er:=.iface 401 (.pointer (some ea))) hr1 hq1 hb1
   gi_region
   all_goals gi_wp2
   all_goals exact⟨ko1.trans hbe.1,rfl,fun rest=>by rw[hpe];exact hok.bad (.inl (by rw[HPL.out,HCN.out];omega)) rest,hbe.2.1,hbe.2.2.1,hbe.2.2.2⟩
  ·have h5':¬5<(c:Int)+1:=by omega
   cases hp:uh st with
   |true=>
    rw[hp] at IS
    gi_wp2_with (refine⟨trivial,?_⟩;gi_at_call 129;refine(CallsIn.inRound l (callsIn_wide.2 (IS _))).mono ?_;rintro e w2 ⟨rfl,b2⟩)
    have hBx:=eX b2 hc1;exact⟨ko1.trans (sQ b2),hk1.trans (b2.block _ (by omega)),by rw[adT.out,HCN.out];exact hBx,eX b2 hr1,eX b2 hq1,hb1.trans (b2.mono hb1.size),by rw[hpe];exact hok.snoc (by rw[HPL.out,HCN.out];omega) hp,aJ hu (aJ hz1 b2.size)⟩
   |false=>
    rw[hp] at IS
    gi_wp2_with (refine⟨trivial,?_⟩;gi_at_call 129;refine(CallsIn.inRound l (callsIn_wide.2 (IS _))).mono ?_;rintro e w2 ⟨rfl,b2⟩;have cR:=bH (eX b2 hr1);have fR:=gI (eX b2 hr1);have cQ:=bH (eX b2 hq1);have fQ:=gI (eX b2 hq1);have cG:=((hb1.trans (b2.mono hb1.size)).cell hg).trans hE)
    have hbe:=R8 (er:=.iface 401 (.pointer (some ea))) (eX b2 hr1) (eX b2 hq1) (hb1.trans (b2.mono hb1.size))
    gi_region
    all_goals gi_wp2
    all_goals exact⟨(ko1.trans (sQ b2)).trans hbe.1,rfl,fun rest=>by rw[hpe];exact hok.bad (.inr hp) rest,hbe.2.1,hbe.2.2.1,hbe.2.2.2⟩
 case done=>
  rintro D xs X hD hS ⟨hc,hr,hq,hb,hok, -⟩ hK;have hv:pE s=true:=by
   have h1:=hok [];rw[hS,List.append_nil] at h1;exact h1
  have OE:=hv1 hv;clear hv1 hv2 hv;subst OE;have c1:=bH hr;have f1:=gI hr;have c2:=bH hq;have f2:=gI hq;have adU:¬W.heap.size=W.heap.size+1:=by omega
  have adV:¬W.heap.size+1=W.heap.size:=by omega
  gi_wp2
  have hK':=((eF X ⟨W.heap.size,0,none⟩ (bV s)).trans (eF _ ⟨W.heap.size+1,0,none⟩ .nilIface)).same D _ hK rfl;refine⟨by simp,.inl ⟨_,_,rfl,run_takeDeferred hK',?_⟩⟩;have hr1:=gZ hr (bV s);have hr2:((X.setCell ⟨W.heap.size,0,none⟩ (bV s)).setCell ⟨W.heap.size+1,0,none⟩ .nilIface).heap[W.heap.size]? =some (.cells #[bV s] 107):=(aY _ _ _ _ (by simp only;omega)).trans hr1;have hq1:(X.setCell ⟨W.heap.size,0,none⟩ (bV s)).heap[W.heap.size+1]? =some (.cells #[.nilIface] 26):=(aY _ _ _ _ (by simp only;omega)).trans hq;have hq2:=gZ hq1 .nilIface;have oc:=bH ((World.putObj_heap_other (w:=(X.setCell ⟨W.heap.size,0,none⟩ (bV s)).setCell ⟨W.heap.size+1,0,none⟩ .nilIface) (o:=.deferred none) (show W.heap.size≠D by omega)).trans hr2);have oq:=bH ((World.putObj_heap_other (w:=(X.setCell ⟨W.heap.size,0,none⟩ (bV s)).setCell ⟨W.heap.size+1,0,none⟩ .nilIface) (o:=.deferred none) (show W.heap.size+1≠D by omega)).trans hq2);refine⟨.tuple #[.agg #[bV s],.nilIface],?_,rfl,((hb.setCell (p:=⟨W.heap.size,0,none⟩) ai _).setCell (p:=⟨W.heap.size+1,0,none⟩) (by simp only;omega) _).trans (belowK_b (w:=W) ai _ D _ _ (by omega) hK' rfl rfl)⟩;simp[results,results75,go_sem,oc,oq]
 case stop=>
  rintro D c pre X hD hpre ⟨rfl,hbad,hr,hq,hb⟩ hK;have hv:pE s=false:=by
   obtain⟨rest,hrest⟩:=hpre;have h1:=hbad rest;rw[hrest] at h1;exact h1
  have OE:=hv2 hv;clear hv1 hv2 hv;subst OE
  gi_wp2
  refine⟨by simp,.inl ⟨_,_,rfl,run_takeDeferred hK,?_⟩⟩;have hr3:=(World.putObj_heap_other (w:=X) (o:=.deferred none) (show W.heap.size≠D by omega)).trans hr;have hq3:=(World.putObj_heap_other (w:=X) (o:=.deferred none) (show W.heap.size+1≠D by omega)).trans hq;have oc:=bH hr3;have oq:=bH hq3;refine⟨.tuple #[.agg #[.string ⟨#[]⟩],.iface 401 (.pointer (some ea))],?_,rfl,hb.trans (belowK_b (w:=W) ai X D _ _ (by omega) hK rfl rfl)⟩;simp[results,results75,go_sem,oc,oq]
theorem Y9 (s:Bs)(hs:s.length<=1000000)(W:ag)(ea:Addr)(hE:W.cell? (ak 1 0)=some (.iface 401 (.pointer (some ea)))):
  au 75 #[bV s] W fun e w'=>e=.returned (.tuple (if pE s then #[.agg #[bV s],.nilIface] else #[.agg #[.string ⟨#[]⟩],.iface 401 (.pointer (some ea))]))/\Below W.heap.size W w':=
 callsIn_wide.1 (Y8 s hs W ea _ (fun h=>by rw[h];rfl) (fun h=>by rw[h];rfl) hE)
end
section
open Go.RowKit Go.Shelf
theorem zD (s:Bs)(w:ag):au 88 #[bV s] w fun e w'=>e=.returned (bV (firstM s))/\w'=w:=by
 have h0:=gD s [102,105,108,108];have h1:=gD s [115,104,111,119];have h2:=gD s [114,117,108,101];have h3:=gD s [108,101,118,101,108];unfold firstM wz uj yX uV;cases ha:(s==[102,105,108,108]) with
 |true=>
  rw[ha] at h0;rw[if_pos (by simpa using ha)];clear h1 h2 h3;go_enter func88,ntmps88;go_wp2_with fail;go_ret;exact⟨rfl,rfl⟩
 |false=>
  rw[ha] at h0;rw[if_neg (by simpa using ha)];cases hb:(s==[115,104,111,119]) with
  |true=>
   rw[hb] at h1;rw[if_pos (by simpa using hb)];clear h2 h3;go_enter func88,ntmps88;go_wp2_with fail;go_ret;exact⟨rfl,rfl⟩
  |false=>
   rw[hb] at h1;rw[if_neg (by simpa using hb)];cases hc:(s==[114,117,108,101]) with
   |true=>
    rw[hc] at h2;rw[if_pos (by simpa using hc)];clear h3;go_enter func88,ntmps88;go_wp2_with fail;go_ret;exact⟨rfl,rfl⟩
   |false=>
    rw[hc] at h2;rw[if_neg (by simpa using hc)];cases hd:(s==[108,101,118,101,108]) with
    |true=>
     rw[hd] at h3;rw[if_pos (by simpa using hd)];go_enter func88,ntmps88;go_wp2_with fail;go_ret;exact⟨rfl,rfl⟩
    |false=>
     rw[hd] at h3;rw[if_neg (by simpa using hd)];go_enter func88,ntmps88;go_wp2_with fail;go_ret;exact⟨rfl,rfl⟩
theorem zF (s:Bs)(w:ag):au 73 #[bV s] w fun e w'=>e=.returned (.bool (yY s))/\w'=w:=by
 have FO:=zD s w;unfold yY;obtain⟨x,hx⟩:∃x,firstM s=x:=⟨_,rfl⟩;rw[hx] at FO⊢;clear hx;have h0:=gD x [];unfold bne;cases ha:(x==[]) with
 |true=>
  rw[ha] at h0;go_enter func73,ntmps73;go_wp2_with(go_at_call 88;refine FO.mono ?_;rintro e w1 ⟨rfl,h⟩;rw[h];clear h);go_ret;exact⟨rfl,rfl⟩
 |false=>
  rw[ha] at h0;go_enter func73,ntmps73;go_wp2_with(go_at_call 88;refine FO.mono ?_;rintro e w1 ⟨rfl,h⟩;rw[h];clear h);go_ret;exact⟨rfl,rfl⟩
theorem Uj (s:Bs)(w:ag):au 87 #[bV s] w fun e w'=>e=.returned (.bool (Fu s))/\w'=w:=by
 have h0:=gD s [102,105,108,108];have h2:=gD s [114,117,108,101];unfold Fu wz yX;cases ha:(s==[102,105,108,108]) with
 |true=>
  rw[ha] at h0;clear h2;go_enter func87,ntmps87;go_wp2_with fail;go_ret;exact⟨rfl,rfl⟩
 |false=>
  rw[ha] at h0;cases hc:(s==[114,117,108,101]) with
  |true=>
   rw[hc] at h2;go_enter func87,ntmps87;go_wp2_with fail;go_ret;exact⟨rfl,rfl⟩
  |false=>
   rw[hc] at h2;go_enter func87,ntmps87;go_wp2_with fail;go_ret;exact⟨rfl,rfl⟩
theorem OG (x:Nat)(w:ag):FnGives prog 127 #[] #[encR x] (.bool (Te x)) w:=by
 show au 127 #[.int .i32 (x:Int)] w fun e w'=>e=.returned (.bool (Te x))/\∃q,w'=w.drewN q;unfold Te;by_cases h1:97<=x
 ·have h1':(97:Int)<=(x:Int):=by omega
  rw[decide_eq_true h1];by_cases h2:x<=122
  ·have h2':(x:Int)<=122:=by omega
   rw[decide_eq_true h2];go_enter func127,ntmps127;go_wp2_with fail;go_ret;exact⟨rfl,0,rfl⟩
  ·have h2':¬(x:Int)<=122:=by omega
   have h3':(48:Int)<=(x:Int):=by omega
   have h4':¬(x:Int)<=57:=by omega
   have h5':((x:Int)==45)=false:=by rw[beq_eq_false_iff_ne];omega
   rw[decide_eq_false h2,decide_eq_true (show 48<=x from by omega),decide_eq_false (show¬x<=57 from by omega),beq_eq_false_iff_ne.2 (show x≠45 from by omega)];go_enter func127,ntmps127;go_wp2_with fail;go_ret;exact⟨rfl,0,rfl⟩
 ·have h1':¬(97:Int)<=(x:Int):=by omega
  rw[decide_eq_false h1];by_cases h3:48<=x
  ·have h3':(48:Int)<=(x:Int):=by omega
   rw[decide_eq_true h3];by_cases h4:x<=57
   ·have h4':(x:Int)<=57:=by omega
    rw[decide_eq_true h4];go_enter func127,ntmps127;go_wp2_with fail;go_ret;exact⟨rfl,0,rfl⟩
   ·have h4':¬(x:Int)<=57:=by omega
    have h5':((x:Int)==45)=false:=by rw[beq_eq_false_iff_ne];omega
    rw[decide_eq_false h4,beq_eq_false_iff_ne.2 (show x≠45 from by omega)];go_enter func127,ntmps127;go_wp2_with fail;go_ret;exact⟨rfl,0,rfl⟩
  ·have h3':¬(48:Int)<=(x:Int):=by omega
   rw[decide_eq_false h3];cases h5:(x==45) with
   |true=>
    have h5':((x:Int)==45)=true:=by
     have:x=45:=by simpa using h5
     subst this;rfl
    go_enter func127,ntmps127;go_wp2_with fail;go_ret;exact⟨rfl,0,rfl⟩
   |false=>
    have h5':((x:Int)==45)=false:=by
     have:¬x=45:=by simpa using h5
     rw[beq_eq_false_iff_ne];omega
    go_enter func127,ntmps127;go_wp2_with fail;go_ret;exact⟨rfl,0,rfl⟩
theorem OH (s:Bs)(w:ag):au 74 #[bV s] w fun e w'=>e=.returned (.bool (xI s))/\Below w.heap.size w w':=by
 have h0:=gD s [];unfold xI bne;cases ha:(s==[]) with
 |true=>
  rw[ha] at h0;go_enter func74,ntmps74;go_wp2_with fail;go_ret;exact⟨rfl,aG _ _⟩
 |false=>
  rw[ha] at h0;have hz:=fF s;by_cases h12:s.length<=12
  ·have adW:¬12<(s.length:Int):=by omega
   have adX:¬12<((⟨s.toArray⟩:aC).size:Int):=by omega
   rw[decide_eq_true h12];have CF:=Tryz.strings_ContainsFunc 127 #[] (enters_of func127 (by kernel_rfl) rfl) Te ⟨s.toArray⟩ w (fun W x _=>OG x W);obtain⟨b,hb⟩:∃b,decide (0<=Lib.idxFunc Te true ⟨s.toArray⟩)=b:=⟨_,rfl⟩;rw[hb] at CF⊢;cases b with
   |true=>
    go_enter func74,ntmps74;go_wp2_with(go_at_call 126;refine CF.mono ?_;rintro e w1 ⟨rfl,b1⟩);go_ret;exact⟨rfl,b1⟩
   |false=>
    go_enter func74,ntmps74;go_wp2_with(go_at_call 126;refine CF.mono ?_;rintro e w1 ⟨rfl,b1⟩);go_ret;exact⟨rfl,b1⟩
  ·have adW:12<(s.length:Int):=by omega
   have adX:12<((⟨s.toArray⟩:aC).size:Int):=by omega
   rw[decide_eq_false h12];go_enter func74,ntmps74;go_wp2_with fail;go_ret;exact⟨rfl,aG _ _⟩
end
section
open Go.RowKit Go.Shelf
set_option maxRecDepth 20000
abbrev rlV (r:Rl):ah:=.agg #[bV r.wh,bV r.nm,bV r.vl]
def rlR:Option Rl->ah
 |none=>.tuple #[.agg #[.string ⟨#[]⟩,.string ⟨#[]⟩,.string ⟨#[]⟩],.bool false]
 |some r=>.tuple #[rlV r,.bool true]
def VD (W:ag):Prop:=∃m,W.cell? (ak 12 0)=some (aa m)
theorem VD.below {W V:ag}(h:VD W)(hb:Below W.heap.size W V):VD V:=by
 obtain⟨m,hm⟩:=h;exact⟨m,(hb.cell (az hm)).trans hm⟩
theorem Ik (s sep:Bs)(hs:s.length<=1000000)(W:ag)(hm:VD W):
  au 43 #[bV s,.string ⟨sep.toArray⟩] W fun e w'=>e=.returned (.tuple #[bV (Lib.cut s sep).1,bV (Lib.cut s sep).2.1,.bool (Lib.cut s sep).2.2])/\Below W.heap.size W w':=by
 obtain⟨m,hm⟩:=hm;refine(Tryz.strings_Cut ⟨s.toArray⟩ ⟨sep.toArray⟩ m W (by rw[fF];omega) hm).mono ?_;rintro e w' ⟨rfl,n,rfl⟩;exact⟨rfl,below_drewN' (aG _ _) n⟩
theorem R9 {X:ag}{k:Nat}{v:Obj}(o:Obj)(h:X.heap[k]? =some v):(X.alloc o).heap[k]? =some v:=((bT X o).block k (cZ.1 h).1).trans h
theorem OI {w:ag}{R:Nat}{cs:Array ah}{t:TypeId}(h:w.heap[R]? =some (.cells cs t))(o:Nat)(v:ah):(w.setCell ⟨R,o,none⟩ v).heap[R]? =some (.cells (cs.setIfInBounds o v) t):=by simp[World.setCell,Array.getElem?_modify,h]
theorem OJ {W w:ag}{R:Nat}{a b c:ah}{t:TypeId}(h:w.heap[R]? =some (.cells #[a,b,c] t))(hR:W.heap.size<=R)(hb:Below W.heap.size W w)(x y z:ah):
  ∀U,((w.setCell ⟨R,0,none⟩ x).setCell ⟨R,1,none⟩ y).setCell ⟨R,2,none⟩ z=U->U.cell? (ak R 0)=some x/\U.cell? (ak R 1)=some y/\U.cell? (ak R 2)=some z/\Below W.heap.size W U:=by
 rintro U rfl;have h3:=OI (OI (OI h 0 x) 1 y) 2 z;exact⟨aD h3 0 _ rfl,aD h3 1 _ rfl,aD h3 2 _ rfl,((hb.setCell (p:=⟨R,0,none⟩) hR _).setCell (p:=⟨R,1,none⟩) hR _).setCell (p:=⟨R,2,none⟩) hR _⟩
theorem Il (s:Bs)(hs:s.length<=1000000)(W:ag)(ea:Addr)(hE:W.cell? (ak 1 0)=some (.iface 401 (.pointer (some ea))))(hm:VD W):
  au 44 #[bV s] W fun e w'=>e=.returned (rlR (uk s))/\Below W.heap.size W w':=by
 obtain⟨res,hres⟩:∃x,uk s=x:=⟨_,rfl⟩;have hR:=hres;unfold uk at hR;rw[hres];clear hres;have C1:=fun V (hm:VD V)=>Ik s [32,123,32] hs V hm;have l1:=yZ s [32,123,32];have l2:=JM s [32,123,32];obtain⟨wh,hwh⟩:∃x,(Lib.cut s [32,123,32]).1=x:=⟨_,rfl⟩;obtain⟨r0,hr0⟩:∃x,(Lib.cut s [32,123,32]).2.1=x:=⟨_,rfl⟩;obtain⟨o1,ho1⟩:∃x,(Lib.cut s [32,123,32]).2.2=x:=⟨_,rfl⟩;rw[hwh,hr0,ho1] at hR;simp only[hwh,hr0,ho1] at C1;rw[hwh] at l1;rw[hr0] at l2;clear hwh hr0 ho1;have CS:∀V,au 72 #[bV r0,.string ⟨#[32,125]⟩] V fun e w'=>e=.returned (.tuple #[bV (Lib.trimSuffix r0 [32,125]),.bool (Lib.hasSuffix r0 [32,125])])/\w'=V:=fun V=>Tryz.strings_CutSuffix ⟨r0.toArray⟩ ⟨#[32,125]⟩ V (by rw[fF];omega);have l3:=Ti r0 [32,125];obtain⟨r1,hr1⟩:∃x,Lib.trimSuffix r0 [32,125]=x:=⟨_,rfl⟩;obtain⟨cl,hcl⟩:∃x,Lib.hasSuffix r0 [32,125]=x:=⟨_,rfl⟩;rw[hr1,hcl] at hR;simp only[hr1,hcl] at CS;rw[hr1] at l3;clear hr1 hcl;have C2:=fun V (hm:VD V)=>Ik r1 [58,32] (by omega) V hm;obtain⟨nm,hnm⟩:∃x,(Lib.cut r1 [58,32]).1=x:=⟨_,rfl⟩;obtain⟨vl,hvl⟩:∃x,(Lib.cut r1 [58,32]).2.1=x:=⟨_,rfl⟩;obtain⟨pt,hpt⟩:∃x,(Lib.cut r1 [58,32]).2.2=x:=⟨_,rfl⟩;rw[hnm,hvl,hpt] at hR;simp only[hnm,hvl,hpt] at C2;clear hnm hvl hpt;have HR:=aj hR;clear hR;have n0:=dw W #[.string ⟨#[]⟩,.string ⟨#[]⟩,.string ⟨#[]⟩] 109;have b0:=bT W (.cells #[.string ⟨#[]⟩,.string ⟨#[]⟩,.string ⟨#[]⟩] 109);go_enter func44,ntmps44;go_upto_region 1 with fail;obtain⟨V,hV⟩:∃V,W.alloc (.cells #[.string ⟨#[]⟩,.string ⟨#[]⟩,.string ⟨#[]⟩] 109)=V:=⟨_,rfl⟩;rw[hV] at n0 b0⊢;clear hV;have HM:Hid (VD V):=hm.below b0;have HE:Hid (V.cell? (ak 1 0)=some (.iface 401 (.pointer (some ea)))):=(b0.cell (az hE)).trans hE;clear hm hE;have C1:=C1 V HM.out;go_upto_region 2 with(go_at_call 43;refine C1.mono ?_;rintro e w1 ⟨rfl,b1⟩);have CS1:=CS w1;go_upto_region 3 with(go_at_call 72;refine CS1.mono ?_;rintro e w2 ⟨rfl,h2⟩;rw[h2];clear h2);have C2':=C2 w1 (HM.out.below b1)
 go_upto_region 4 with(go_at_call 43;refine C2'.mono ?_;rintro e w2 ⟨rfl,b2⟩);clear C1 CS CS1 C2 C2';have q2:=aH b1 b2;have n2:=eX q2 n0;have IN:=zF nm w2;have IV:=OH vl w2;have BW2:=aH b0 q2;have RD:=fun V' (hb:Below V.heap.size V V')=>Y9 wh (by omega) V' ea ((hb.cell (az HE.out)).trans HE.out);have RD2:=fun V' (hb:Below w2.heap.size w2 V')=>RD V' (aH q2 hb);clear RD;cases o1 with
 |false=>
  have c0:=aD n2 0 _ rfl;have c1:=aD n2 1 _ rfl;have c2:=aD n2 2 _ rfl;have f0:=aR n2 0;have f1:=aR n2 1;have f2:=aR n2 2;go_wp2_with fail;obtain⟨U,hU⟩:∃U,((w2.setCell ⟨W.heap.size,0,none⟩ (.string ⟨#[]⟩)).setCell ⟨W.heap.size,1,none⟩ (.string ⟨#[]⟩)).setCell ⟨W.heap.size,2,none⟩ (.string ⟨#[]⟩)=U:=⟨_,rfl⟩;obtain⟨u0,u1,u2,bU⟩:=OJ n2 ai BW2 (.string ⟨#[]⟩) (.string ⟨#[]⟩) (.string ⟨#[]⟩) U hU;rw[hU];refine bodyPost_ret (v:=.tuple #[.agg #[(.string ⟨#[]⟩),(.string ⟨#[]⟩),(.string ⟨#[]⟩)],.bool false]) (by simp[results,results44,go_sem,u0,u1,u2]) rfl ⟨by rw[<- HR.out];rfl,bU⟩
 |true=>
  cases cl with
  |false=>
   have c0:=aD n2 0 _ rfl;have c1:=aD n2 1 _ rfl;have c2:=aD n2 2 _ rfl;have f0:=aR n2 0;have f1:=aR n2 1;have f2:=aR n2 2;go_wp2_with fail;obtain⟨U,hU⟩:∃U,((w2.setCell ⟨W.heap.size,0,none⟩ (.string ⟨#[]⟩)).setCell ⟨W.heap.size,1,none⟩ (.string ⟨#[]⟩)).setCell ⟨W.heap.size,2,none⟩ (.string ⟨#[]⟩)=U:=⟨_,rfl⟩;obtain⟨u0,u1,u2,bU⟩:=OJ n2 ai BW2 (.string ⟨#[]⟩) (.string ⟨#[]⟩) (.string ⟨#[]⟩) U hU;rw[hU];refine bodyPost_ret (v:=.tuple #[.agg #[(.string ⟨#[]⟩),(.string ⟨#[]⟩),(.string ⟨#[]⟩)],.bool false]) (by simp[results,results44,go_sem,u0,u1,u2]) rfl ⟨by rw[<- HR.out];rfl,bU⟩
  |true=>
   cases pt with
   |false=>
    have c0:=aD n2 0 _ rfl;have c1:=aD n2 1 _ rfl;have c2:=aD n2 2 _ rfl;have f0:=aR n2 0;have f1:=aR n2 1;have f2:=aR n2 2;go_wp2_with fail;obtain⟨U,hU⟩:∃U,((w2.setCell ⟨W.heap.size,0,none⟩ (.string ⟨#[]⟩)).setCell ⟨W.heap.size,1,none⟩ (.string ⟨#[]⟩)).setCell ⟨W.heap.size,2,none⟩ (.string ⟨#[]⟩)=U:=⟨_,rfl⟩;obtain⟨u0,u1,u2,bU⟩:=OJ n2 ai BW2 (.string ⟨#[]⟩) (.string ⟨#[]⟩) (.string ⟨#[]⟩) U hU;rw[hU];refine bodyPost_ret (v:=.tuple #[.agg #[(.string ⟨#[]⟩),(.string ⟨#[]⟩),(.string ⟨#[]⟩)],.bool false]) (by simp[results,results44,go_sem,u0,u1,u2]) rfl ⟨by rw[<- HR.out];rfl,bU⟩
   |true=>
    cases hn:yY nm with
    |false=>
     rw[hn] at IN;have c0:=aD n2 0 _ rfl;have c1:=aD n2 1 _ rfl;have c2:=aD n2 2 _ rfl;have f0:=aR n2 0;have f1:=aR n2 1;have f2:=aR n2 2;go_wp2_with(go_at_call 73;refine IN.mono ?_;rintro e w3 ⟨rfl,h⟩;rw[h];clear h);obtain⟨U,hU⟩:∃U,((w2.setCell ⟨W.heap.size,0,none⟩ (.string ⟨#[]⟩)).setCell ⟨W.heap.size,1,none⟩ (.string ⟨#[]⟩)).setCell ⟨W.heap.size,2,none⟩ (.string ⟨#[]⟩)=U:=⟨_,rfl⟩;obtain⟨u0,u1,u2,bU⟩:=OJ n2 ai BW2 (.string ⟨#[]⟩) (.string ⟨#[]⟩) (.string ⟨#[]⟩) U hU;rw[hU];refine bodyPost_ret (v:=.tuple #[.agg #[(.string ⟨#[]⟩),(.string ⟨#[]⟩),(.string ⟨#[]⟩)],.bool false]) (by simp[results,results44,go_sem,u0,u1,u2]) rfl ⟨by rw[<- HR.out];rw[hn];rfl,bU⟩
    |true=>
     rw[hn] at IN;cases hv:xI vl with
     |false=>
      rw[hv] at IV;go_upto_region 5 with(first|(go_at_call 73;refine IN.mono ?_;rintro e w3 ⟨rfl,h⟩;rw[h];clear h)|(go_at_call 74;refine IV.mono ?_;rintro e w3 ⟨rfl,b3⟩));have n3:=eX b3 n2;have Gc:=aH BW2 b3;have c0:=aD n3 0 _ rfl;have c1:=aD n3 1 _ rfl;have c2:=aD n3 2 _ rfl;have f0:=aR n3 0;have f1:=aR n3 1;have f2:=aR n3 2;go_wp2_with fail;obtain⟨U,hU⟩:∃U,((w3.setCell ⟨W.heap.size,0,none⟩ (.string ⟨#[]⟩)).setCell ⟨W.heap.size,1,none⟩ (.string ⟨#[]⟩)).setCell ⟨W.heap.size,2,none⟩ (.string ⟨#[]⟩)=U:=⟨_,rfl⟩;obtain⟨u0,u1,u2,bU⟩:=OJ n3 ai Gc (.string ⟨#[]⟩) (.string ⟨#[]⟩) (.string ⟨#[]⟩) U hU;rw[hU];refine bodyPost_ret (v:=.tuple #[.agg #[(.string ⟨#[]⟩),(.string ⟨#[]⟩),(.string ⟨#[]⟩)],.bool false]) (by simp[results,results44,go_sem,u0,u1,u2]) rfl ⟨by rw[<- HR.out];rw[hn,hv];rfl,bU⟩
     |true=>
      rw[hv] at IV;go_upto_region 6 with(first|(go_at_call 73;refine IN.mono ?_;rintro e w3 ⟨rfl,h⟩;rw[h];clear h)|(go_at_call 74;refine IV.mono ?_;rintro e w3 ⟨rfl,b3⟩));have n3:=eX b3 n2;have Gc:=aH BW2 b3;have RD3:=RD2 w3 b3;clear RD2 IN IV;cases hs:pE wh with
      |false=>
       rw[hs,if_neg (by simp)] at RD3;go_upto_region 8 with(go_at_call 75;refine RD3.mono ?_;rintro e w4 ⟨rfl,b4⟩);have n4:=R9 (.cells #[.string ⟨#[]⟩] 107) (eX b4 n3);have BW4:=(aH Gc b4).alloc (aH Gc b4).size (.cells #[.string ⟨#[]⟩] 107);have c0:=aD n4 0 _ rfl;have c1:=aD n4 1 _ rfl;have c2:=aD n4 2 _ rfl;have f0:=aR n4 0;have f1:=aR n4 1;have f2:=aR n4 2;go_wp2_with fail;obtain⟨U,hU⟩:∃U,(((w4.alloc (.cells #[.string ⟨#[]⟩] 107)).setCell ⟨W.heap.size,0,none⟩ (.string ⟨#[]⟩)).setCell ⟨W.heap.size,1,none⟩ (.string ⟨#[]⟩)).setCell ⟨W.heap.size,2,none⟩ (.string ⟨#[]⟩)=U:=⟨_,rfl⟩;obtain⟨u0,u1,u2,bU⟩:=OJ n4 ai BW4 (.string ⟨#[]⟩) (.string ⟨#[]⟩) (.string ⟨#[]⟩) U hU;rw[hU];refine bodyPost_ret (v:=.tuple #[.agg #[(.string ⟨#[]⟩),(.string ⟨#[]⟩),(.string ⟨#[]⟩)],.bool false]) (by simp[results,results44,go_sem,u0,u1,u2]) rfl ⟨by rw[<- HR.out];rw[hn,hv,hs];rfl,bU⟩
      |true=>
       rw[hs,if_pos rfl] at RD3;go_upto_region 9 with(go_at_call 75;refine RD3.mono ?_;rintro e w4 ⟨rfl,b4⟩);have n4:=R9 (.cells #[bV wh] 107) (eX b4 n3);have m4:=dw w4 #[bV wh] 107;have d4:=aD m4 0 _ rfl;have BW4:=(aH Gc b4).alloc (aH Gc b4).size (.cells #[bV wh] 107);have c0:=aD n4 0 _ rfl;have c1:=aD n4 1 _ rfl;have c2:=aD n4 2 _ rfl;have f0:=aR n4 0;have f1:=aR n4 1;have f2:=aR n4 2;go_wp2_with fail;obtain⟨U,hU⟩:∃U,(((w4.alloc (.cells #[bV wh] 107)).setCell ⟨W.heap.size,0,none⟩ (bV wh)).setCell ⟨W.heap.size,1,none⟩ (bV nm)).setCell ⟨W.heap.size,2,none⟩ (bV vl)=U:=⟨_,rfl⟩;obtain⟨u0,u1,u2,bU⟩:=OJ n4 ai BW4 (bV wh) (bV nm) (bV vl) U hU;rw[hU];refine bodyPost_ret (v:=.tuple #[.agg #[(bV wh),(bV nm),(bV vl)],.bool true]) (by simp[results,results44,go_sem,u0,u1,u2]) rfl ⟨by rw[<- HR.out];rw[hn,hv,hs];rfl,bU⟩
def eY:List Rl->List ah
 |[]=>[]
 |r::l=>bV r.wh::bV r.nm::bV r.vl::eY l
theorem zG:∀(l:List Rl) (r:Rl),eY (l++[r])=eY l++[bV r.wh,bV r.nm,bV r.vl]
 |[],_=>rfl
 |x::l,r=>by rw[List.cons_append,eY,eY,zG l r];rfl
theorem Gd:∀{l:List Rl} {i:Nat} {r:Rl},l[i]? =some r->(eY l)[i*3]? =some (bV r.wh)/\(eY l)[i*3+1]? =some (bV r.nm)/\(eY l)[i*3+2]? =some (bV r.vl)
 |[],_,_,h=>by simp at h
 |y::l,0,x,h=>by
  simp at h;subst h;exact⟨rfl,rfl,rfl⟩
 |y::l,i+1,x,h=>by
  have h1:=Gd (l:=l) (i:=i) (r:=x) (by simpa using h);rw[show(i+1)*3=i*3+1+1+1 from by omega];exact⟨by simpa[eY] using h1.1,by simpa[eY] using h1.2.1,by simpa[eY] using h1.2.2⟩
theorem a5R:(prog.info? 109).map (fun i=>(i.zero,i.size,i.bytes))=some (some (.agg #[.string ByteArray.empty,.string ByteArray.empty,.string ByteArray.empty]),3,48):=by kernel_rfl
theorem a1S {w:ag}{base:Nat}{e:TypeId}{size:Nat}{v:ah}{n:Nat}{xs:List ah}(h:w.ownsRow base e size v n xs):∀k,v.ownBlock=some k->base<=k:=fun k hk=>(h.lt k hk).1
theorem LJ (w:ag)(x y z:ah)(t:TypeId):∀j u,[x,y,z][j]? =some u->(w.alloc (.cells #[x,y,z] t)).cell? ((⟨w.heap.size,0,none⟩:Addr).add j)=some u:=by
 intro j u h
 match j,h with
 |0,h=>simp at h;subst h;exact iJ w #[x,y,z] t 0 x rfl
 |1,h=>simp at h;subst h;exact iJ w #[x,y,z] t 1 y rfl
 |2,h=>simp at h;subst h;exact iJ w #[x,y,z] t 2 z rfl
def ShR (ea ef:Addr)(base:Nat)(r:Except Nat (List Rl))(e:Ending)(w:ag):Prop:=match r with
 | .error k=>∃pb,e=.returned (.tuple #[.slice none 0 0,.iface 90 (ay pb)])/\w.heap[pb]? =some (.cells #[aa k,.iface 401 (.pointer (some ea))] 92)
 | .ok l=>(40<l.length/\e=.returned (.tuple #[.slice none 0 0,.iface 401 (.pointer (some ef))]))\/(l.length<=40/\∃v,e=.returned (.tuple #[v,.nilIface])/\w.ownsRow base 109 3 v l.length (eY l))
theorem Uk (s:Bs)(hs:s.length<=10000)(W:ag)(ea ef:Addr)(hE:W.cell? (ak 1 0)=some (.iface 401 (.pointer (some ea))))(hF:W.cell? (ak 2 0)=some (.iface 401 (.pointer (some ef))))(hm:VD W):
  au 20 #[bV s] W fun e w'=>ShR ea ef W.heap.size (GQ s) e w'/\Below W.heap.size W w':=by
 obtain⟨i0,hi,hz0,hz1,hz2⟩:=info_parts a5R;have HM:=aj hm;have HE:=aj hE;have HF:=aj hF;have hsz:=fF s;have h10:¬10000<(s.length:Int):=by omega
 have al7:¬10000<((⟨s.toArray⟩:aC).size:Int):=by omega
 obtain⟨res,hres⟩:∃x,GQ s=x:=⟨_,rfl⟩;have HS:=aj hres;rw[hres];clear hres hm hE hF hsz;go_enter func20,ntmps20;go_wp2_with fail
 go_loopw [0,4,5] (fun x v y wr=>∃(f:Nat) (t:Bs) (acc:List Rl),x=bV t/\y=aa acc.length/\t.length<f/\acc.length+t.length<=10000/\Tf f acc t=res/\wr.ownsRow W.heap.size 109 3 v acc.length (eY acc)/\Below W.heap.size W wr) (fun x _ _ _=>Lx x)
 case atStart=>exact⟨_,s,[],rfl,rfl,Nat.lt_succ_self _,by simpa using hs,HS.out,eH _ _ _ _,aG _ _⟩
 case round=>
  obtain⟨f,t,acc,rfl,rfl,hf,hln,hsh,hown,hb⟩:=hrel;have HO:=aj hown;have HSH:=aj hsh;have h0:=gD t [];have hwz:=hb.size;clear hown hsh;obtain⟨ov,kv,hu4⟩:=aM HO.out;subst hu4;cases ht:(t==[]) with
  |true=>
   have hte:t=[]:=by simpa using ht
   subst hte;have hre:res=.ok acc:=by rw[<- HSH.out,a0K]
   subst hre;by_cases h40:40<acc.length
   ·have ae0:40<(acc.length:Int):=by omega
    have cF:=(hb.cell (az HF.out)).trans HF.out;go_upto_region 14 with fail;go_region
    all_goals go_wp2_with fail
    all_goals go_ret2
    all_goals exact⟨.inl ⟨h40,rfl⟩,hb.drew⟩
   ·have ae0:¬40<(acc.length:Int):=by omega
    go_wp2_with fail
    go_ret2
    exact⟨.inr ⟨by omega,_,rfl,HO.out⟩,hb⟩
  |false=>
   have hte:t≠[]:=by intro e;subst e;simp at ht
   have hts:t.length<=1000000:=by omega
   obtain⟨g,rfl⟩:∃g,f=g+1:=⟨f-1,by omega⟩;have C1:=Ik t [10] hts wr (HM.out.below hb);have l1:=yZ t [10];have l2:=a0J t [10];obtain⟨ln,Ya⟩:∃x,(Lib.cut t [10]).1=x:=⟨_,rfl⟩;obtain⟨rs,hrs⟩:∃x,(Lib.cut t [10]).2.1=x:=⟨_,rfl⟩;obtain⟨en,hen⟩:∃x,(Lib.cut t [10]).2.2=x:=⟨_,rfl⟩;have hbad:uk ln=none->res=.error acc.length:=fun h=>by rw[<- HSH.out];exact a0L hte (by rw[Ya];exact h)
   have hopen:en=false->res=.error acc.length:=fun h=>by rw[<- HSH.out];exact Wx hte (by rw[hen];exact h)
   have hmore:∀r,uk ln=some r->en=true->Tf g (acc++[r]) rs=res:=fun r h1 h2=>by rw[<- HSH.out,Wy hte (by rw[Ya];exact h1) (by rw[hen];exact h2),hrs]
   rw[Ya,hrs,hen] at C1;rw[Ya] at l1;rw[hrs,hen] at l2;clear Ya hrs hen;have HB:=aj hbad;have HP:=aj hopen;have HMo:=aj hmore;have HL2:=aj l2;clear hbad hopen hmore l2;have RR:=fun V (hv:Below wr.heap.size wr V)=>Il ln (by omega) V ea (((aH hb hv).cell (az HE.out)).trans HE.out) (HM.out.below (aH hb hv));obtain⟨ro,hro⟩:∃x,uk ln=x:=⟨_,rfl⟩;simp only[hro] at RR;have HRO:=aj hro;clear hro;go_upto_region 8 with(go_at_call 43;refine C1.mono ?_;rintro e w1 ⟨rfl,b1⟩);have RR1:=RR w1 b1;clear RR C1;cases ro with
   |none=>
    unfold rlR at RR1;go_upto_region 9 with(go_at_call 44;refine RR1.mono ?_;rintro e w2 ⟨rfl,b2⟩);clear RR1;have n3:=bT w2 (.cells #[.string ⟨#[]⟩,.string ⟨#[]⟩,.string ⟨#[]⟩] 109);have Gc:=(aH (aH hb b1) b2).alloc (aH (aH hb b1) b2).size (.cells #[.string ⟨#[]⟩,.string ⟨#[]⟩,.string ⟨#[]⟩] 109);obtain⟨V3,LK⟩:∃V,w2.alloc (.cells #[.string ⟨#[]⟩,.string ⟨#[]⟩,.string ⟨#[]⟩] 109)=V:=⟨_,rfl⟩;rw[LK] at Gc⊢;clear LK n3;have cE:=(Gc.cell (az HE.out)).trans HE.out;have hre:res=.error acc.length:=HB.out HRO.out;subst hre;have hnw:=dw V3 #[aa acc.length,.iface 401 (.pointer (some ea))] 92;have hnb:=Gc.alloc Gc.size (.cells #[aa acc.length,.iface 401 (.pointer (some ea))] 92);cases en with
    |true=>
     go_upto_region 10 with fail;go_region
     all_goals go_wp2_with fail
     all_goals go_ret2
     all_goals exact⟨⟨_,rfl,hnw⟩,hnb.drew⟩
    |false=>
     go_upto_region 10 with fail;go_region
     all_goals go_wp2_with fail
     all_goals go_ret2
     all_goals exact⟨⟨_,rfl,hnw⟩,hnb.drew⟩
   |some r=>
    unfold rlR at RR1;cases en with
    |false=>
     go_upto_region 9 with(go_at_call 44;refine RR1.mono ?_;rintro e w2 ⟨rfl,b2⟩);clear RR1;have n3:=bT w2 (.cells #[bV r.wh,bV r.nm,bV r.vl] 109);have Gc:=(aH (aH hb b1) b2).alloc (aH (aH hb b1) b2).size (.cells #[bV r.wh,bV r.nm,bV r.vl] 109);obtain⟨V3,LK⟩:∃V,w2.alloc (.cells #[bV r.wh,bV r.nm,bV r.vl] 109)=V:=⟨_,rfl⟩;rw[LK] at Gc⊢;clear LK n3;have cE:=(Gc.cell (az HE.out)).trans HE.out;have hre:res=.error acc.length:=HP.out (by simp);subst hre;have hnw:=dw V3 #[aa acc.length,.iface 401 (.pointer (some ea))] 92;have hnb:=Gc.alloc Gc.size (.cells #[aa acc.length,.iface 401 (.pointer (some ea))] 92);go_upto_region 10 with fail;go_region
     all_goals go_wp2_with fail
     all_goals go_ret2
     all_goals exact⟨⟨_,rfl,hnw⟩,hnb.drew⟩
    |true=>
     go_upto_region 9 with(go_at_call 44;refine RR1.mono ?_;rintro e w2 ⟨rfl,b2⟩);clear RR1;have n3:=dw w2 #[bV r.wh,bV r.nm,bV r.vl] 109;have B3:=(aH b1 b2).alloc (aH b1 b2).size (.cells #[bV r.wh,bV r.nm,bV r.vl] 109);have Gc:=(aH (aH hb b1) b2).alloc (aH (aH hb b1) b2).size (.cells #[bV r.wh,bV r.nm,bV r.vl] 109);obtain⟨V3,LK⟩:∃V,w2.alloc (.cells #[bV r.wh,bV r.nm,bV r.vl] 109)=V:=⟨_,rfl⟩;obtain⟨P,hP⟩:∃V,w2.heap.size=V:=⟨_,rfl⟩;rw[LK] at Gc B3 n3⊢;rw[hP] at n3⊢;clear LK hP b2;have HO3:Hid (V3.ownsRow W.heap.size 109 3 (.slice ov acc.length kv) acc.length (eY acc)):=aQ HO.out B3;have p0:=aD n3 0 _ rfl;have p1:=aD n3 1 _ rfl;have p2:=aD n3 2 _ rfl;have hz3:=Gc.size;have hcl:(eY acc).length=acc.length*3:=HO3.out.1;go_wp2_with(at_builtin;refine wpList_append_own _ rfl _ _ 58 rfl W.heap.size 109 i0 (.agg #[.string ByteArray.empty,.string ByteArray.empty,.string ByteArray.empty]) 3 48 underlying58 hi hz0 hz1 hz2 rfl (by decide) _ _ _ rfl (World.ownsRow.alloc HO3.out _) ⟨V3.heap.size,0,none⟩ 1 1 [bV r.wh,bV r.nm,bV r.vl] rfl rfl (LJ V3 _ _ _ _) (fun x hx=>by simp at hx;rcases hx with rfl|rfl|rfl<;>rfl) (by rw[bq];omega) (by omega) (by simp;omega) ?_;intro v' w4 hown' hgrow _);have hb4:=(Gc.alloc hz3 _).grown hgrow (by simp;omega) (a1S HO3.out);have hl2:=HL2.out (by simp) (by simp)
     go_roundw
     case rel=>exact⟨g,rs,acc++[r],rfl,by simp,by omega,by simp;omega,HMo.out r HRO.out (by simp),by rw[zG,List.length_append];exact hown',hb4⟩
     case measure=>simp only[yh];simpa[yh] using hl2
end
end Go.Proofs.YtecneflbncjhpaaGreatDoor

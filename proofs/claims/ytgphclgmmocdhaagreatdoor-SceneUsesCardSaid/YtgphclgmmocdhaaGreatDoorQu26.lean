/-
  Parts of the proof.
-/
import Derived.Test.YtgphclgmmocdhaaGreatDoorQu25
import Derived.Test.YtgphclgmmocdhaaGreatDoorQu16
namespace Go.Proofs.YtgphclgmmocdhaaGreatDoor
section
theorem decode_skip (s:ByteArray) (pos:Nat) (h:pos<s.size) (ha:128<=(s[pos]'h).toNat):∀ k,1<=k->k<(Utf8.decode s pos).2->pos+k<s.size/\128<=(s.get! (pos+k)).toNat:=by
 have hn:¬ (s[pos]'h).toNat<128:=by omega
 intro k hk1 hk2
 have h2:(Utf8.decode s pos).2<=4:=by
  simp only [Utf8.decode]
  repeat' split
  all_goals simp
 simp only [Utf8.decode,get_at s pos h,hn,if_false] at hk2
 have key:∀ k,(decide (pos+k<s.size) && ((s.get! (pos+k)).toNat / 64==2))=true->pos+k<s.size/\128<=(s.get! (pos+k)).toNat:=fun k hk=>by
  simp only [Bool.and_eq_true,decide_eq_true_eq,beq_iff_eq] at hk
  exact ⟨hk.1,by omega⟩
 split at hk2
 ·rename_i hc
  rw [Bool.and_eq_true] at hc
  have:k=1:=by split at hk2 <;> simp only at hk2 <;> omega
  subst this
  exact key 1 hc.2
 ·split at hk2
  ·rename_i hc
   rw [Bool.and_eq_true,Bool.and_eq_true] at hc
   have:k=1\/k=2:=by split at hk2 <;> simp only at hk2 <;> omega
   rcases this with rfl | rfl
   ·exact key 1 hc.1.2
   ·exact key 2 hc.2
  ·split at hk2
   ·rename_i hc
    rw [Bool.and_eq_true,Bool.and_eq_true,Bool.and_eq_true] at hc
    have:k=1\/k=2\/k=3:=by split at hk2 <;> simp only at hk2 <;> omega
    rcases this with rfl | rfl | rfl
    ·exact key 1 hc.1.1.2
    ·exact key 2 hc.1.2
    ·exact key 3 hc.2
   ·simp only at hk2
    omega
theorem decode_fits (s:ByteArray) (pos:Nat) (h:pos<s.size):pos+(Utf8.decode s pos).2<=s.size:=by
 by_cases ha:128<=(s[pos]'h).toNat
 ·have h1:=(decode_high s pos h ha).2
  by_cases h2:(Utf8.decode s pos).2=1
  ·omega
  ·have:=(decode_skip s pos h ha ((Utf8.decode s pos).2 - 1) (by omega) (by omega)).1
   omega
 ·have hn:(s[pos]'h).toNat<128:=by omega
  simp only [Utf8.decode,get_at s pos h,hn,if_true]
  omega
theorem encode_high (r:Int) (h:128<=r):2<=(Utf8.encode r).size/\(Utf8.encode r).size<=4/\∀ x ∈ (Utf8.encode r).data.toList,128<=x.toNat:=by
 unfold Utf8.encode
 simp only
 generalize hc:(if Utf8.valid r=true then r.toNat else Utf8.runeError)=c
 have h1:128<=c:=by
  rw [<- hc]
  split
  ·omega
  ·decide
 have h2:c<=1114111:=by
  rw [<- hc]
  split
  ·rename_i hv
   unfold Utf8.valid at hv
   simp at hv
   omega
  ·decide
 have key:∀ n:Nat,128<=n->n<256->128<=(UInt8.ofNat n).toNat:=fun n h3 h4=>by
  rw [UInt8.toNat_ofNat',Nat.mod_eq_of_lt (by simpa using h4)]
  exact h3
 rw [if_neg (by omega)]
 split
 ·refine ⟨by simp [ByteArray.size],by simp [ByteArray.size],?_⟩
  intro x hx
  simp only [List.mem_cons,List.not_mem_nil,or_false] at hx
  rcases hx with rfl | rfl
  ·exact key _ (by omega) (by omega)
  ·exact key _ (by omega) (by omega)
 ·split
  ·refine ⟨by simp [ByteArray.size],by simp [ByteArray.size],?_⟩
   intro x hx
   simp only [List.mem_cons,List.not_mem_nil,or_false] at hx
   rcases hx with rfl | rfl | rfl
   ·exact key _ (by omega) (by omega)
   ·exact key _ (by omega) (by omega)
   ·exact key _ (by omega) (by omega)
  ·refine ⟨by simp [ByteArray.size],by simp [ByteArray.size],?_⟩
   intro x hx
   simp only [List.mem_cons,List.not_mem_nil,or_false] at hx
   rcases hx with rfl | rfl | rfl | rfl
   ·exact key _ (by omega) (by omega)
   ·exact key _ (by omega) (by omega)
   ·exact key _ (by omega) (by omega)
   ·exact key _ (by omega) (by omega)
end
section
open Go.RowKit Go.Shelf
set_option maxHeartbeats 4000000
set_option maxRecDepth 20000
theorem IndexRune_err (w:World):Calls Tryz.prog 286 #[.string ⟨#[35,46,91]⟩,.int .i32 65533] w fun e w'=>e=.returned (.int .i64 (-1))/\Below w.heap.size w w':=by
 go_enter Tryz.func286,Tryz.ntmps286
 go_wp2_with fail
 go_loopg [5,6] 3 (fun g _ _ wx=>∃ i:Nat,i+g=3/\wx=w.iter ⟨#[35,46,91]⟩ i)
 case atStart=>exact ⟨0,by omega,rfl⟩
 case round=>
  obtain ⟨i,hig,rfl⟩:=hrel
  cases gk with
  | zero=>
   obtain rfl:i=3:=by omega
   have hnx:=run_next_end (P:=Tryz.prog) w ⟨#[35,46,91]⟩ 3
   go_wp2
   go_ret
   exact ⟨rfl,(Below.refl _ _).alloc Nat.le.refl _⟩
  | succ g=>
   have hi:i<(⟨#[35,46,91]⟩:ByteArray).size:=by
    show i<3
    omega
   have hnx:=fun ty=>run_next_ascii (P:=Tryz.prog) w ⟨#[35,46,91]⟩ i ty hi (by
    have:i=0\/i=1\/i=2:=by omega
    rcases this with rfl | rfl | rfl
    ·exact (by decide:(35:UInt8).toNat<128)
    ·exact (by decide:(46:UInt8).toNat<128)
    ·exact (by decide:(91:UInt8).toNat<128))
   obtain ⟨x,hx⟩:∃ x:UInt8,(⟨#[35,46,91]⟩:ByteArray)[i]'hi=x:=⟨_,rfl⟩
   have hxe:((x.toNat:Int)==65533)=false:=by
    rw [beq_eq_false_iff_ne]
    have:=x.toNat_lt
    omega
   rw [hx] at hnx
   clear hx
   go_wp2
   go_roundg g
   case measure=>omega
   case rel=>exact ⟨i+1,by omega,rfl⟩
theorem high_ne (x c:UInt8) (h:128<=x.toNat) (hc:c.toNat<128):((c.toNat:Int) != (x.toNat:Int))=true:=by
 simp only [bne_iff_ne,ne_eq]
 omega
theorem high_no (l:List UInt8) (x:UInt8) (h:128<=x.toNat) (hl:∀ c ∈ l,c.toNat<128):Lib.indexByte l x = -1:=by
 have h1:=Lib.contains_iff_indexByte l x
 have h2:l.contains x=false:=by
  rw [Bool.eq_false_iff]
  intro h3
  have:=hl x (by simpa using h3)
  omega
 rw [h2] at h1
 have h3:=of_decide_eq_false h1.symm
 have h4:=Lib.indexByte_ge l x
 omega
theorem IndexRune_enc (S:ByteArray) (hS:∀ c ∈ S.data.toList,c.toNat<128) (r:Int) (h1:128<=r) (he:r≠65533) (w:World):Calls Tryz.prog 286 #[.string S,.int .i32 r] w fun e w'=>e=.returned (.int .i64 (-1))/\Below w.heap.size w w':=by
 have he':(r==65533)=false:=by rw [beq_eq_false_iff_ne];exact he
 have VR:=Tryz.utf8_ValidRune r w
 have hl:¬ r<128:=by omega
 have h0:0<=r:=by omega
 cases hv:Lib.validRune r with
 | false=>
  rw [hv] at VR
  go_enter Tryz.func286,Tryz.ntmps286
  go_wp2_with (go_at_call 305;refine VR.mono ?_;rintro e w1 ⟨rfl,h⟩;rw [h];clear h)
  go_ret
  exact ⟨rfl,Below.refl _ _⟩
 | true=>
  rw [hv] at VR
  obtain ⟨s1,s2,s3⟩:=encode_high r h1
  obtain ⟨E,hE⟩:∃ E,Utf8.encode r=E:=⟨_,rfl⟩
  rw [hE] at s1 s2 s3
  have HE:Hid (Utf8.encode r=E):=hE
  clear hE
  go_enter Tryz.func286,Tryz.ntmps286
  go_wp2_with (go_at_call 305;refine VR.mono ?_;rintro e w1 ⟨rfl,h⟩;rw [h];clear h)
  go_step3
  go_upto_region 2 with fail
  rw [HE.out]
  obtain ⟨L,hL⟩:∃ L:Nat,(E.size:Int) - 1=L:=⟨E.size - 1,by omega⟩
  have hLE:L<E.size:=by omega
  have hLE':(L:Int)<(E.size:Int):=by omega
  obtain ⟨x,hx⟩:∃ x:UInt8,E[L]'hLE=x:=⟨_,rfl⟩
  have hx8:128<=x.toNat:=by
   refine s3 x ?_
   rw [<- hx]
   simp [ByteArray.getElem_eq_getElem_data]
  clear s3 HE VR
  go_wp2_with fail
  go_loopw [9,10] (fun y9 y10 wr=>y9=.int .i64 (L:Nat)/\y10=.int .i64 0/\wr=w) (fun _ _ _=>0)
  case atStart=>exact ⟨rfl,rfl,rfl⟩
  case round=>
   obtain ⟨rfl,rfl,hwr⟩:=hrel
   rw [hwr]
   clear hwr
   by_cases hL3:L<S.size
   ·have hL3':(L:Int)<(S.size:Int):=by omega
    obtain ⟨K1,hK1⟩:∃ K1:Nat,(L:Int)+1=K1:=⟨L+1,by omega⟩
    have hK2:(K1:Int)<=(S.size:Int):=by omega
    obtain ⟨y,hy⟩:∃ y:UInt8,S[L]'hL3=y:=⟨_,rfl⟩
    have hy8:y.toNat<128:=by
     refine hS y ?_
     rw [<- hy]
     simp [ByteArray.getElem_eq_getElem_data]
    have hne:=high_ne x y hx8 hy8
    have IB:∀ V,Calls Tryz.prog 184 #[.string (S.extract K1 S.size),.int .u8 x.toNat] V fun e w'=>e=.returned (.int .i64 (-1))/\w'=V:=fun V=>by
     have h:=Tryz.strings_IndexByte (S.extract K1 S.size) x.toNat V
     rw [show ((x.toNat:Int)).toNat.toUInt8=x from by simp,high_no _ x hx8 (by
      intro c hc
      refine hS c ?_
      simp only [ByteArray.data_extract,Array.toList_extract] at hc
      exact List.mem_of_mem_drop (List.mem_of_mem_take hc))] at h
     exact h
    have hwk:IntKind.i64.wrap (K1:Int)=(K1:Int):=IntWalk.i64_in _ (by omega)
    go_wp2_with fail
    go_step3
    go_upto_region 6 with fail
    go_region
    go_upto_region 7 with fail
    go_region_with ((go_at_call 184;refine (IB _).mono ?_;rintro e w2 ⟨rfl,h⟩;rw [h];clear h))
    go_wp2_with fail
    rw [Exit.noGoto_ret]
    go_wp2_with fail
    rw [Exit.noGoto_ret]
    go_wp2_with fail
    go_ret
    exact ⟨rfl,(Below.refl _ w).drew.drew⟩
   ·have hL3':¬ (L:Int)<(S.size:Int):=by omega
    go_wp2_with fail
    go_ret
    exact ⟨rfl,Below.refl _ _⟩
theorem IndexRune_high (r:Int) (h1:128<=r) (w:World):Calls Tryz.prog 286 #[.string ⟨#[35,46,91]⟩,.int .i32 r] w fun e w'=>e=.returned (.int .i64 (-1))/\Below w.heap.size w w':=by
 by_cases he:r=65533
 ·subst he
  exact IndexRune_err w
 ·exact IndexRune_enc ⟨#[35,46,91]⟩ (by intro c hc;simp at hc;rcases hc with rfl | rfl | rfl <;> decide) r h1 he w
end
section
open Go.RowKit Go.Shelf
set_option maxHeartbeats 8000000
set_option maxRecDepth 1000000
theorem iterAt_below {w v:World} (h:Below w.heap.size w v) (k:Nat) (hk:w.heap.size<=k) (S:ByteArray) (p:Nat):Below w.heap.size w (v.iterAt k S p):=
 ⟨h.os,h.tape,h.output,by rw [Lib.iterAt_size];exact h.size,fun j hj=>(Lib.iterAt_other v k j S p (by omega)).trans (h.block j hj)⟩
theorem noAny_jump {l:Bs} {i d:Nat} (h:Lib.NoAny l [35,46,91] i) (hd:∀ k x,i<=k->k<i+d->l[k]? = some x->128<=x.toNat):Lib.NoAny l [35,46,91] (i+d):=fun j b hj hb=>by
 by_cases hji:j<i
 ·exact h j b hji hb
 ·have h1:=hd j b (by omega) hj hb
  rw [any_mk]
  unfold isMk
  have ne:∀ c:UInt8,c.toNat<128->(b==c)=false:=fun c hc=>by
   rw [beq_eq_false_iff_ne]
   intro e
   subst e
   omega
  rw [ne 35 (by decide),ne 46 (by decide),ne 91 (by decide)]
  rfl
theorem IndexAny_short (s:ByteArray) (w:World) (h8:s.size<=8) :
  Calls Tryz.prog 251 #[.string s,.string ⟨#[35,46,91]⟩] w fun e w'=>e=.returned (.int .i64 (Lib.indexAny s.data.toList [35,46,91]))/\Below w.heap.size w w':=by
 have h8z:decide ((8:Int)<(s.size:Int))=false:=decide_eq_false (by omega)
 go_enter Tryz.func251,Tryz.ntmps251
 go_wp2_with (go_at_call 287;refine (Tryz.strings_shouldUseASCIISet _ _).mono ?_;rintro e w' ⟨rfl,hw⟩;rw [hw,h8z])
 obtain ⟨KB,hKB⟩:∃ KB,w.heap.size=KB:=⟨_,rfl⟩
 have hst:(w.alloc (.stringIter s 0)).heap[w.heap.size]? = some (.stringIter s 0):=by
  show (w.heap.push (.stringIter s 0))[w.heap.size]? = _
  exact Array.getElem?_push_size
 have hbl:Below w.heap.size w (w.alloc (.stringIter s 0)):=(Below.refl _ w).alloc Nat.le.refl _
 rw [hKB] at hst ⊢
 go_loopg [9,10] s.size (fun g _ _ wx=>∃ i:Nat,i+g=s.size/\wx.heap[KB]? = some (.stringIter s i)/\Below w.heap.size w wx/\Lib.NoAny s.data.toList [35,46,91] i)
 case atStart=>exact ⟨0,by omega,hst,hbl,Lib.NoAny.zero _ _⟩
 case round=>
  obtain ⟨i,hig,hit,hbx,hno⟩:=hrel
  have HN:Hid (Lib.NoAny s.data.toList [35,46,91] i):=hno
  clear hno
  cases gk with
  | zero=>
   obtain rfl:i=s.size:=by omega
   have hnx:=fun ty=>Lib.run_next_end_at (P:=Tryz.prog) wr KB s s.size ty hit (by omega)
   go_wp2
   go_ret
   exact ⟨by rw [Lib.indexAny_none (by rw [<- Lib.size_eq];exact HN.out)];rfl,hbx⟩
  | succ g=>
   have hi:i<s.size:=by omega
   obtain ⟨x,hx⟩:∃ x:UInt8,s[i]'hi=x:=⟨_,rfl⟩
   have hxl:s.data.toList[i]? = some x:=by rw [<- hx];exact Lib.data_getElem? s i hi
   have HX:Hid (s.data.toList[i]? = some x):=hxl
   by_cases h128:x.toNat<128
   ·have hnx:=fun ty=>Lib.run_next_ascii_at (P:=Tryz.prog) wr KB s i ty hit hi (by rw [hx];exact h128)
    rw [hx] at hnx
    have hit2:=Lib.iterAt_heap wr KB s i (i+1) hit
    have hb2:=iterAt_below hbx KB (by omega) s (i+1)
    obtain ⟨U,hU⟩:∃ U,wr.iterAt KB s (i+1)=U:=⟨_,rfl⟩
    rw [hU] at hit2 hb2 hnx
    have IR:=Tryz.strings_IndexRune_ascii ⟨#[35,46,91]⟩ (x.toNat:Int) U (by omega) (by omega)
    have hback:((x.toNat:Int)).toNat.toUInt8=x:=by simp
    rw [hback] at IR
    have hcon:=Lib.contains_iff_indexByte [35,46,91] x
    clear hx hxl hU hback
    cases hin:([35,46,91]:List UInt8).contains x with
    | false=>
     rw [hin] at hcon
     have hlt:¬ ((0:Int)<=Lib.indexByte [35,46,91] x):=of_decide_eq_false hcon.symm
     have IR':Calls Tryz.prog 286 #[.string ⟨#[35,46,91]⟩,.int .i32 x.toNat] U fun e w'=>e=.returned (.int .i64 (Lib.indexByte [35,46,91] x))/\w'=U:=IR
     obtain ⟨ib,hib⟩:∃ ib,Lib.indexByte [35,46,91] x=ib:=⟨_,rfl⟩
     rw [hib] at IR' hlt
     clear hcon IR hib
     go_wp2_with (go_at_call 286;refine IR'.mono ?_;rintro e w2 ⟨rfl,h⟩;rw [h];clear h)
     go_roundg g
     case measure=>omega
     case rel=>exact ⟨i+1,by omega,hit2,hb2,HN.out.succ HX.out hin⟩
    | true=>
     rw [hin] at hcon
     have hge:(0:Int)<=Lib.indexByte [35,46,91] x:=of_decide_eq_true hcon.symm
     have IR':Calls Tryz.prog 286 #[.string ⟨#[35,46,91]⟩,.int .i32 x.toNat] U fun e w'=>e=.returned (.int .i64 (Lib.indexByte [35,46,91] x))/\w'=U:=IR
     obtain ⟨ib,hib⟩:∃ ib,Lib.indexByte [35,46,91] x=ib:=⟨_,rfl⟩
     rw [hib] at IR' hge
     clear hcon IR hib
     go_wp2_with (go_at_call 286;refine IR'.mono ?_;rintro e w2 ⟨rfl,h⟩;rw [h];clear h)
     go_ret
     exact ⟨by rw [Lib.indexAny_hit HN.out HX.out hin];rfl,hb2⟩
   ·have hnx:=fun ty=>Lib.run_next_any_at (P:=Tryz.prog) wr KB s i ty hit hi
    have hd1:=decode_high s i hi (by rw [hx];omega)
    have hd2:=decode_skip s i hi (by rw [hx];omega)
    have hd3:=decode_fits s i hi
    have hno2:Lib.NoAny s.data.toList [35,46,91] (i+(Utf8.decode s i).2):=noAny_jump HN.out (fun k c h1 h2 h3=>by
     by_cases hk:k=i
     ·rw [hk,hxl] at h3
      cases h3
      omega
     ·obtain ⟨d,rfl⟩:∃ d,k=i+d:=⟨k - i,by omega⟩
      have h4:=hd2 d (by omega) (by omega)
      have h5:=Lib.data_getElem? s (i+d) h4.1
      rw [h3] at h5
      rw [Option.some.inj h5]
      have h6:=get_at s (i+d) h4.1
      rw [Nat.add_zero] at h6
      rw [h6] at h4
      exact h4.2)
    obtain ⟨d,hd⟩:∃ d,(Utf8.decode s i).2=d:=⟨_,rfl⟩
    obtain ⟨rr,hr⟩:∃ rr,(Utf8.decode s i).1=rr:=⟨_,rfl⟩
    rw [hd] at hnx hd1 hd3 hno2
    rw [hr] at hnx hd1
    have HN2:Hid (Lib.NoAny s.data.toList [35,46,91] (i+d)):=hno2
    have hit2:=Lib.iterAt_heap wr KB s i (i+d) hit
    have hb2:=iterAt_below hbx KB (by omega) s (i+d)
    obtain ⟨U,hU⟩:∃ U,wr.iterAt KB s (i+d)=U:=⟨_,rfl⟩
    rw [hU] at hit2 hb2 hnx
    have IR:=IndexRune_high (rr:Int) (by omega) U
    clear hx hxl hU hd hr hd2 hno2
    go_wp2_with (go_at_call 286;refine IR.mono ?_;rintro e w2 ⟨rfl,b2⟩)
    go_roundg (s.size - (i+d))
    case measure=>omega
    case rel=>exact ⟨i+d,by omega,(b2.block KB (Array.getElem?_eq_some_iff.1 hit2).1).trans hit2,hb2.trans (b2.mono hb2.size),HN2.out⟩
theorem set256:∀ w:World,(zeroValue 377).run Tryz.prog w=.ok (.agg (Array.replicate 256 (.bool false))) w:=fun w=>by kernel_rfl
theorem IndexAny_any (s:Bs) (hs:s.length<=1000000) (w:World) :
  Calls Tryz.prog 251 #[.string ⟨s.toArray⟩,.string ⟨#[35,46,91]⟩] w fun e w'=>e=.returned (.int .i64 (Lib.indexAny s [35,46,91]))/\Below w.heap.size w w':=by
 by_cases h8:s.length<=8
 ·exact IndexAny_short ⟨s.toArray⟩ w (by rw [ba_size];exact h8)
 ·refine (Tryz.strings_IndexAny_long set256 ⟨s.toArray⟩ ⟨#[35,46,91]⟩ w (by decide) (by rw [ba_size];omega) (by rw [ba_size];omega) (by decide) (fun j b hb=>?_)).mono fun e w' h=>⟨h.1,?_⟩
  ·have hm:=List.mem_of_getElem? hb
   simp at hm
   rcases hm with rfl | rfl | rfl <;> decide
  ·rw [h.2]
   exact ((Below.refl _ _).alloc Nat.le.refl _).alloc (by simp) _
end
section
open Go.RowKit Go.Shelf
set_option maxHeartbeats 8000000
set_option maxRecDepth 100000
attribute [local go_sem] Oper.semAt_some
theorem partsOf_any (s:Bs) (w:World):Calls Tryz.prog 206 #[bV s] w fun e w'=>e=.returned (.func (.func 250) #[] #[.pointer (some ⟨w.heap.size,0,none⟩)])/\w'=w.alloc (.cells #[bV s] 9):=by
 go_enter Tryz.func206,Tryz.ntmps206
 go_wp2
 go_ret
 exact ⟨rfl,rfl⟩
abbrev PtB:={ x:UInt8 × Bs // x.2.length<=1000000 }
abbrev ptL (l:List PtB):List (UInt8 × Bs):=l.map Subtype.val
abbrev ptV (x:PtB):Array Value:=#[.int .u8 x.1.1.toNat,bV x.1.2]
theorem parts_seq (s:Bs) (hs:s.length<=1000000) (n:Nat) (B:Nat) (w0:World) (hB:w0.heap[B]? = some (.cells #[bV s] 9)) :
  SeqStopsK Fence.wide n Tryz.prog 250 #[.pointer (some ⟨B,0,none⟩)] ptV (KpB B) (fun xs=>ptL xs=pts 0 s) (fun p=>ptL p <+: pts 0 s) (pts 0 s).length w0:=by
 intro l J Jx W hW hJ hJx hY h0
 have hBl:B<w0.heap.size:=(Array.getElem?_eq_some_iff.1 hB).1
 have hBW:W.heap[B]? = some (.cells #[bV s] 9):=(hW.block B hBl).trans hB
 have c0:W.cell? ⟨B,0,none⟩=some (bV s):=by simp [World.cell?,hBW]
 have hJb:∀ p A C,J p A->Below A.heap.size A C->J p C:=fun p A C h hb=>hJ p A C none h (grown_of_below hb) (fun r e=>by cases e)
 refine callsIn_of_wp Tryz.func250 rfl trivial ?_ rfl
 simp only [Tryz.ntmps250,List.size_toArray,List.length_cons,List.length_nil,Nat.reduceAdd,Nat.reduceSub,Array.replicate_succ,Array.replicate_zero,List.push_toArray,List.append_toArray,List.nil_append,List.cons_append]
 gi_wp2
 gi_region
 gi_wp2
 gi_loopw [3,4] (fun y3 y4 wr=>∃ (pre:List PtB) (k:UInt8) (t:Bs),t.length<=1000000/\ptL pre++pts k t=pts 0 s/\y3=.int .u8 k.toNat/\y4=bV t/\J pre wr/\KpB B W wr) (fun _ y4 _=>lenV y4)
 case atStart=>exact ⟨[],0,s,hs,rfl,rfl,rfl,hJb _ _ _ h0 (Below.refl _ _).drew,rfl⟩
 case round=>
  obtain ⟨pre,k,t,htl,hps,rfl,rfl,hJp,hKp⟩:=hrel
  have IA:=IndexAny_any t htl wr
  cases hf:firstMk t with
  | none=>
   rw [any_none hf] at IA
   rw [pts_no hf] at hps
   have hpl:pre.length<(pts 0 s).length:=by
    rw [<- hps,List.length_append,List.length_cons,List.length_map]
    omega
   have hnl:(nmIn k t).length<=1000000:=Nat.le_trans (nmIn_len k t) htl
   have HPS:Hid (ptL pre++[(k,nmIn k t)]=pts 0 s):=hps
   have hNI:∀ V,Calls Tryz.prog 252 #[.int .u8 k.toNat,bV t] V fun e w'=>e=.returned (bV (nmIn k t))/\w'=V:=fun V=>nameIn_any k t htl V
   have hYx:∀ W1,J pre W1->YieldAt Fence.wide (n - 1) Tryz.prog l #[.int .u8 k.toNat,bV (nmIn k t)] W1 fun e W'=>(e=.returned (.bool true)/\J (pre++[⟨(k,nmIn k t),hnl⟩]) W'/\KpB B W1 W')\/(e=.returned (.bool false)/\Jx (pre++[⟨(k,nmIn k t),hnl⟩]) W'):=fun W1 h=>hY pre ⟨(k,nmIn k t),hnl⟩ W1 h hpl
   revert hnl HPS hNI hYx
   generalize nmIn k t=nm
   intro hnl HPS hNI hYx
   clear hps hf
   gi_wp2_with (first | (refine ⟨trivial,(fun h=>by cases h),?_⟩;gi_at_call 251;refine (callsIn_wide.2 IA).mono ?_;rintro e w1 ⟨rfl,hb1⟩) | (refine ⟨trivial,(fun h=>by cases h),?_⟩;gi_at_call 252;refine (callsIn_wide.2 (hNI _)).mono ?_;rintro e w2 ⟨rfl,h⟩;rw [h];clear h;obtain ⟨fn,tmps,assign,body,hy,hR⟩:=hYx w1 (hJb _ _ _ hJp hb1)))
   refine ⟨(fun h=>by cases h),hR.mono ?_⟩
   rintro e W3 (⟨rfl,hJ3,hk3⟩ | ⟨rfl,hJx3⟩)
   ·gi_wp2
    refine bodyPost_ret (results_none rfl _ _ _) rfl ?_
    exact ⟨⟨_,rfl⟩,.inl ⟨_,by rw [<- HPS.out];simp,hJ3⟩⟩
   ·gi_wp2
    refine bodyPost_ret (results_none rfl _ _ _) rfl ?_
    exact ⟨⟨_,rfl⟩,.inr ⟨_,by rw [<- HPS.out];simp,hJx3⟩⟩
  | some x=>
   obtain ⟨a,m,r⟩:=x
   rw [any_some hf] at IA
   rw [pts_more hf] at hps
   have hpl:pre.length<(pts 0 s).length:=by
    rw [<- hps,List.length_append,List.length_cons,List.length_map]
    omega
   obtain ⟨h1, -, -⟩:=firstMk_some hf
   have hlen:t.length=a.length+(r.length+1):=by rw [h1];simp
   have hal:a.length<=1000000:=by omega
   have hsz:(⟨t.toArray⟩:ByteArray).size=t.length:=ba_size t
   have hua:(a.length:Int)<=((⟨t.toArray⟩:ByteArray).size:Int):=by rw [hsz];omega
   have hub:(a.length:Int)<((⟨t.toArray⟩:ByteArray).size:Int):=by rw [hsz];omega
   have hub':a.length<(⟨t.toArray⟩:ByteArray).size:=by rw [hsz];omega
   have hmi:(⟨t.toArray⟩:ByteArray)[a.length]'hub'=m:=by
    subst h1
    simp [ByteArray.getElem_eq_getElem_data]
   have hua0:¬ (a.length:Int)<0:=by omega
   obtain ⟨K1,hK1⟩:∃ K1:Nat,(a.length:Int)+1=K1:=⟨a.length+1,by omega⟩
   have hK2:(K1:Int)<=((⟨t.toArray⟩:ByteArray).size:Int):=by rw [hsz];omega
   have hubl:(a.length:Int)<(t.length:Int):=by omega
   have hubl':a.length<t.length:=by omega
   have hK3:(K1:Int)<=(t.length:Int):=by omega
   have hwk:IntKind.i64.wrap (K1:Int)=(K1:Int):=IntWalk.i64_in _ (by omega)
   have HDR:Hid ((⟨t.toArray⟩:ByteArray).extract K1 t.length=⟨r.toArray⟩):=(by
    rw [show K1=a.length+1 from by omega,h1]
    exact ba_drop a r m _ rfl:(⟨t.toArray⟩:ByteArray).extract K1 t.length=⟨r.toArray⟩)
   have hNI:∀ V,Calls Tryz.prog 252 #[.int .u8 k.toNat,.string ((⟨t.toArray⟩:ByteArray).extract 0 a.length)] V fun e w'=>e=.returned (bV (nmIn k a))/\w'=V:=fun V=>by
    rw [show (⟨t.toArray⟩:ByteArray).extract 0 a.length=⟨a.toArray⟩ from by rw [h1];exact ba_take a (m :: r)]
    exact nameIn_any k a hal V
   have hnl:(nmIn k a).length<=1000000:=Nat.le_trans (nmIn_len k a) hal
   have hYx:∀ W1,J pre W1->YieldAt Fence.wide (n - 1) Tryz.prog l #[.int .u8 k.toNat,bV (nmIn k a)] W1 fun e W'=>(e=.returned (.bool true)/\J (pre++[⟨(k,nmIn k a),hnl⟩]) W'/\KpB B W1 W')\/(e=.returned (.bool false)/\Jx (pre++[⟨(k,nmIn k a),hnl⟩]) W'):=fun W1 h=>hY pre ⟨(k,nmIn k a),hnl⟩ W1 h hpl
   have HPS:Hid (ptL pre++((k,nmIn k a) :: pts m r)=pts 0 s):=hps
   have HLR:Hid (r.length<t.length):=(by omega:r.length<t.length)
   revert hnl HPS hNI hYx
   generalize nmIn k a=nm
   intro hNI hnl hYx HPS
   clear hps hf h1 hlen hsz
   gi_wp2_with (first | (refine ⟨trivial,(fun h=>by cases h),?_⟩;gi_at_call 251;refine (callsIn_wide.2 IA).mono ?_;rintro e w1 ⟨rfl,hb1⟩) | (refine ⟨trivial,(fun h=>by cases h),?_⟩;gi_at_call 252;refine (callsIn_wide.2 (hNI _)).mono ?_;rintro e w2 ⟨rfl,h⟩;rw [h];clear h;obtain ⟨fn,tmps,assign,body,hy,hR⟩:=hYx w1 (hJb _ _ _ hJp hb1)))
   refine ⟨(fun h=>by cases h),hR.mono ?_⟩
   rintro e W3 (⟨rfl,hJ3,hk3⟩ | ⟨rfl,hJx3⟩)
   ·gi_wp2
    gi_region
    gi_wp2
    go_roundw
    case rel=>exact ⟨pre++[⟨(k,nm),hnl⟩],m,r,by have:=HLR.out;omega,by rw [<- HPS.out];simp,by first | rfl | simp,by rw [HDR.out],hJb _ _ _ hJ3 (Below.refl _ _).drew,(hKp.trans (KpB.of_below hb1 (Array.getElem?_eq_some_iff.1 (Eq.trans (show wr.heap[B]? = W.heap[B]? from hKp) hBW)).1)).trans hk3⟩
    case measure=>
     rw [HDR.out,lenV_b,lenV_b]
     exact HLR.out
   ·gi_wp2
    refine bodyPost_ret (results_none rfl _ _ _) rfl ?_
    exact ⟨⟨_,rfl⟩,.inr ⟨_,by rw [<- HPS.out];exact ⟨pts m r,by simp⟩,hJx3⟩⟩
end
section
open Go.RowKit Go.Shelf
attribute [local go_sem] Oper.semAt_some
theorem pts_len:∀ (f:Nat) (k:UInt8) (s:Bs),s.length<=f->(pts k s).length<=s.length+1
 | f,k,s,hf=>by
  cases hs:firstMk s with
  | none=>rw [pts_no hs];simp
  | some x=>
   obtain ⟨a,m,r⟩:=x
   have hl:=firstMk_len hs
   rw [pts_more hs,List.length_cons]
   have:=pts_len (f - 1) m r (by omega)
   omega
termination_by _ _ s=>s.length
theorem three_blocks (W:World) (o1 o2 o3:Obj):(((W.alloc o1).alloc o2).alloc o3).heap[W.heap.size]? = some o1/\(((W.alloc o1).alloc o2).alloc o3).heap[W.heap.size+1]? = some o2/\(((W.alloc o1).alloc o2).alloc o3).heap[W.heap.size+1+1]? = some o3/\(((W.alloc o1).alloc o2).alloc o3).heap.size=W.heap.size+3/\Below W.heap.size W (((W.alloc o1).alloc o2).alloc o3):=by
 have s1:(W.alloc o1).heap.size=W.heap.size+1:=World.size_alloc W o1
 have s2:((W.alloc o1).alloc o2).heap.size=W.heap.size+1+1:=by rw [World.size_alloc,s1]
 have n1:=World.alloc_heap_new W o1
 have n2:=World.alloc_heap_new (W.alloc o1) o2
 have n3:=World.alloc_heap_new ((W.alloc o1).alloc o2) o3
 rw [s1] at n2
 rw [s2] at n3
 refine ⟨(Below.heap_alloc _ _ _ (by rw [s2];omega)).trans ((Below.heap_alloc _ _ _ (by rw [s1];omega)).trans n1),(Below.heap_alloc _ _ _ (by rw [s2];omega)).trans n2,n3,by rw [World.size_alloc,s2],?_⟩
 exact (((Below.refl W.heap.size W).alloc Nat.le.refl _).alloc (by rw [s1];omega) _).alloc (by rw [s2];omega) _
theorem blk_own {A C:World} {row:Option Nat} {U k:Nat} {o:Obj} (h:A.heap[k]? = some o) (hk:k<U) (hg:A.grownBy C row) (hr:∀ r,row=some r->U<=r/\∃ o:Obj,A.heap[r]? = some o/\o.isCells=false):C.heap[k]? = some o:=
 (hg.block k (Array.getElem?_eq_some_iff.1 h).1 (fun e=>by have:=(hr k e.symm).1;omega)).trans h
theorem bel_own {V A C:World} {row:Option Nat} {U:Nat} (h:Below V.heap.size V A) (hU:V.heap.size<=U) (hg:A.grownBy C row) (hr:∀ r,row=some r->U<=r/\∃ o:Obj,A.heap[r]? = some o/\o.isCells=false):Below V.heap.size V C:=
 ⟨hg.os.trans h.os,hg.tape.trans h.tape,hg.output.trans h.output,Nat.le_trans h.size hg.size,fun k hk=>(hg.block k (Nat.lt_of_lt_of_le hk h.size) (fun e=>by have:=(hr k e.symm).1;omega)).trans (h.block k hk)⟩
theorem cell_one {w:World} {b:Nat} {v:Value} {t:TypeId} (h:w.heap[b]? = some (.cells #[v] t)):w.cell? ⟨b,0,none⟩=some v:=by simp [World.cell?,h]
theorem froz_one {w:World} {b:Nat} {v:Value} {t:TypeId} (h:w.heap[b]? = some (.cells #[v] t)):w.frozen? ⟨b,0,none⟩=false:=by
 unfold World.frozen?
 rw [h]
 simp
theorem set_one {w:World} {b:Nat} {v:Value} {t:TypeId} (h:w.heap[b]? = some (.cells #[v] t)) (u:Value):(w.setCell ⟨b,0,none⟩ u).heap[b]? = some (.cells #[u] t):=by
 rw [heap_setCell_same w b 0 _ _ _ h]
 rfl
end
section
open Go.RowKit Go.Shelf
attribute [local go_sem] Oper.semAt_some
theorem four_blocks (W:World) (o0 o1 o2 o3:Obj):((((W.alloc o0).alloc o1).alloc o2).alloc o3).heap[W.heap.size]? = some o0/\((((W.alloc o0).alloc o1).alloc o2).alloc o3).heap[W.heap.size+1]? = some o1/\((((W.alloc o0).alloc o1).alloc o2).alloc o3).heap[W.heap.size+1+1]? = some o2/\((((W.alloc o0).alloc o1).alloc o2).alloc o3).heap[W.heap.size+1+1+1]? = some o3/\((((W.alloc o0).alloc o1).alloc o2).alloc o3).heap.size=W.heap.size+4/\Below W.heap.size W ((((W.alloc o0).alloc o1).alloc o2).alloc o3):=by
 obtain ⟨h1,h2,h3,h4,h5⟩:=three_blocks (W.alloc o0) o1 o2 o3
 have s0:(W.alloc o0).heap.size=W.heap.size+1:=World.size_alloc W o0
 rw [s0] at h1 h2 h3 h4
 have n0:=World.alloc_heap_new W o0
 refine ⟨(h5.block _ (by rw [s0];omega)).trans n0,h1,h2,h3,h4,?_⟩
 exact ((Below.refl W.heap.size W).alloc Nat.le.refl _).trans (h5.mono (by rw [s0];omega))
theorem below_oth {A C:World} (h:Below A.heap.size A C):KeepsOthers A C:=⟨h.size,fun l _ ho _=>(h.block l (Array.getElem?_eq_some_iff.1 ho).1).trans ho⟩
theorem bel_blk {A C:World} (h:Below A.heap.size A C) {k:Nat} {o:Obj} (ho:A.heap[k]? = some o):C.heap[k]? = some o:=(h.block k (Array.getElem?_eq_some_iff.1 ho).1).trans ho
theorem stepsM_count:∀ (f:Nat) (s:Bs),(stepsM f s).length<=f
 | 0,_=>Nat.le_refl _
 | f+1,s=>by
  rw [stepsM]
  obtain ⟨a,k,b,hc⟩:∃ a k b,cutM s=(a,k,b):=⟨_,_,_,rfl⟩
  rw [hc]
  cases k with
  | no=>simp
  | right=>have:=stepsM_count f a;simp only [List.length_cons];omega
  | below=>have:=stepsM_count f a;simp only [List.length_cons];omega
end
section
open Go.RowKit Go.Shelf
set_option maxHeartbeats 1000000
theorem firstOf_any (s:Bs) (w:World):Calls Tryz.prog 81 #[bV s] w fun e w'=>e=.returned (bV (firstM s))/\w'=w:=by
 have h0:=ba_toL s [102,105,108,108]
 have h1:=ba_toL s [115,104,111,119]
 have h2:=ba_toL s [114,117,108,101]
 have h3:=ba_toL s [108,101,118,101,108]
 unfold firstM kFill kShow kRule kLevel
 cases ha:(s==[102,105,108,108]) with
 | true=>
  rw [ha] at h0
  rw [if_pos (by simpa using ha)]
  clear h1 h2 h3
  go_enter Tryz.func81,Tryz.ntmps81
  go_wp2_with fail
  go_ret
  exact ⟨rfl,rfl⟩
 | false=>
  rw [ha] at h0
  rw [if_neg (by simpa using ha)]
  cases hb:(s==[115,104,111,119]) with
  | true=>
   rw [hb] at h1
   rw [if_pos (by simpa using hb)]
   clear h2 h3
   go_enter Tryz.func81,Tryz.ntmps81
   go_wp2_with fail
   go_ret
   exact ⟨rfl,rfl⟩
  | false=>
   rw [hb] at h1
   rw [if_neg (by simpa using hb)]
   cases hc:(s==[114,117,108,101]) with
   | true=>
    rw [hc] at h2
    rw [if_pos (by simpa using hc)]
    clear h3
    go_enter Tryz.func81,Tryz.ntmps81
    go_wp2_with fail
    go_ret
    exact ⟨rfl,rfl⟩
   | false=>
    rw [hc] at h2
    rw [if_neg (by simpa using hc)]
    cases hd:(s==[108,101,118,101,108]) with
    | true=>
     rw [hd] at h3
     rw [if_pos (by simpa using hd)]
     go_enter Tryz.func81,Tryz.ntmps81
     go_wp2_with fail
     go_ret
     exact ⟨rfl,rfl⟩
    | false=>
     rw [hd] at h3
     rw [if_neg (by simpa using hd)]
     go_enter Tryz.func81,Tryz.ntmps81
     go_wp2_with fail
     go_ret
     exact ⟨rfl,rfl⟩
theorem isNameS_any (s:Bs) (w:World):Calls Tryz.prog 77 #[bV s] w fun e w'=>e=.returned (.bool (isNmS s))/\w'=w:=by
 have FO:=firstOf_any s w
 unfold isNmS
 obtain ⟨x,hx⟩:∃ x,firstM s=x:=⟨_,rfl⟩
 rw [hx] at FO ⊢
 clear hx
 have h0:=ba_toL x []
 unfold bne
 cases ha:(x==[]) with
 | true=>
  rw [ha] at h0
  go_enter Tryz.func77,Tryz.ntmps77
  go_wp2_with (go_at_call 81;refine FO.mono ?_;rintro e w1 ⟨rfl,h⟩;rw [h];clear h)
  go_ret
  exact ⟨rfl,rfl⟩
 | false=>
  rw [ha] at h0
  go_enter Tryz.func77,Tryz.ntmps77
  go_wp2_with (go_at_call 81;refine FO.mono ?_;rintro e w1 ⟨rfl,h⟩;rw [h];clear h)
  go_ret
  exact ⟨rfl,rfl⟩
theorem isInh_any (s:Bs) (w:World):Calls Tryz.prog 80 #[bV s] w fun e w'=>e=.returned (.bool (isInh s))/\w'=w:=by
 have h0:=ba_toL s [102,105,108,108]
 have h2:=ba_toL s [114,117,108,101]
 unfold isInh kFill kRule
 cases ha:(s==[102,105,108,108]) with
 | true=>
  rw [ha] at h0
  clear h2
  go_enter Tryz.func80,Tryz.ntmps80
  go_wp2_with fail
  go_ret
  exact ⟨rfl,rfl⟩
 | false=>
  rw [ha] at h0
  cases hc:(s==[114,117,108,101]) with
  | true=>
   rw [hc] at h2
   go_enter Tryz.func80,Tryz.ntmps80
   go_wp2_with fail
   go_ret
   exact ⟨rfl,rfl⟩
  | false=>
   rw [hc] at h2
   go_enter Tryz.func80,Tryz.ntmps80
   go_wp2_with fail
   go_ret
   exact ⟨rfl,rfl⟩
end
section
open Go.RowKit Go.Shelf
abbrev rlV (r:Rl):Value:=.agg #[bV r.wh,bV r.nm,bV r.vl]
end
section
open Go.RowKit Go.Shelf
def cellsR:List Rl->List Value
 | []=>[]
 | r :: l=>bV r.wh :: bV r.nm :: bV r.vl :: cellsR l
theorem cellsR_at:∀ {l:List Rl} {i:Nat} {r:Rl},l[i]? = some r->(cellsR l)[i * 3]? = some (bV r.wh)/\(cellsR l)[i * 3+1]? = some (bV r.nm)/\(cellsR l)[i * 3+2]? = some (bV r.vl)
 | [],_,_,h=>by simp at h
 | y :: l,0,x,h=>by
  simp at h
  subst h
  exact ⟨rfl,rfl,rfl⟩
 | y :: l,i+1,x,h=>by
  have h1:=cellsR_at (l:=l) (i:=i) (r:=x) (by simpa using h)
  rw [show (i+1) * 3=i * 3+1+1+1 from by omega]
  exact ⟨by simpa [cellsR] using h1.1,by simpa [cellsR] using h1.2.1,by simpa [cellsR] using h1.2.2⟩
end
end Go.Proofs.YtgphclgmmocdhaaGreatDoor

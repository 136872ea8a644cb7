/-
  Parts of the proof.
-/
import Derived.Test.YtgphclgmmocdhaaGreatDoorQu29
namespace Go.Proofs.YtgphclgmmocdhaaGreatDoor
def kIt:Bs:=[105,116,45,105,115]
def gN (ks:List Nd):Nd:=.mk kGroup [(kId,kIt)] ks
def uN (mv:Bs):Nd:=.mk kUse [(kOf,kIt),(kMove,mv)] []
def oneN (ks:List Nd):Nd:=.mk kGroup [] [gN ks]
def twoN (ks:List Nd) (mv:Bs):Nd:=.mk kGroup [] [gN ks,uN mv]
theorem sz_one (ks:List Nd):szN (oneN ks)=szL ks+2:=by simp [oneN,gN,szN,szL]
theorem sz_two (ks:List Nd) (mv:Bs):szN (twoN ks mv)=szL ks+3:=by simp [twoN,gN,uN,szN,szL]
theorem el_one (ks:List Nd):elN 0 (-1) (oneN ks)=⟨kGroup,[], -1,[1]⟩ :: ⟨kGroup,[(kId,kIt)],0,kdN 2 ks⟩ :: elL 2 1 ks:=by
 simp [oneN,gN,elN,elL,kdN]
theorem el_two (ks:List Nd) (mv:Bs):elN 0 (-1) (twoN ks mv)=⟨kGroup,[], -1,[1,((szL ks+2:Nat):Int)]⟩ :: ⟨kGroup,[(kId,kIt)],0,kdN 2 ks⟩ :: (elL 2 1 ks++[⟨kUse,[(kOf,kIt),(kMove,mv)],0,[]⟩]):=by
 simp [twoN,gN,uN,elN,elL,kdN,szN]
 omega
theorem use_new (ks:List Nd) (mv:Bs) (hd:∀ a ∈ rkN 1 (oneN ks),a<=10):UseV (newD (oneN ks)) (newD (twoN ks mv)) (rkD (oneN ks)) ((szL ks+2:Nat):Int) kIt mv:=by
 have hl:(elL 2 1 ks).length=szL ks:=elL_len ks 2 1
 have h1:∀ i,newD (oneN ks) i=if (0:Int)<=i/\i<szL ks+2 then (elN 0 (-1) (oneN ks))[i.toNat]? else none:=fun i=>by
  unfold newD extE
  rw [elN_len,sz_one]
  by_cases h:(0:Int)<=i/\i<szL ks+2
  ·rw [if_pos h,if_pos (by omega)]
   congr 1
   omega
  ·rw [if_neg h,if_neg (by omega)]
 have h2:∀ i,newD (twoN ks mv) i=if (0:Int)<=i/\i<szL ks+3 then (elN 0 (-1) (twoN ks mv))[i.toNat]? else none:=fun i=>by
  unfold newD extE
  rw [elN_len,sz_two]
  by_cases h:(0:Int)<=i/\i<szL ks+3
  ·rw [if_pos h,if_pos (by omega)]
   congr 1
   omega
  ·rw [if_neg h,if_neg (by omega)]
 refine ⟨Wd.new _ hd,fun i h0 hn=>?_,?_,?_,?_,⟨kdN 2 ks,?_⟩,?_⟩
 ·rw [h1,h2]
  by_cases h:(0:Int)<=i/\i<szL ks+2
  ·rw [if_pos (by omega),if_pos h,el_one,el_two]
   obtain ⟨j,hj⟩:∃ j:Nat,i.toNat=j+1:=⟨i.toNat - 1,by omega⟩
   rw [hj,List.getElem?_cons_succ,List.getElem?_cons_succ]
   cases j with
   | zero=>rfl
   | succ j=>rw [List.getElem?_cons_succ,List.getElem?_cons_succ,List.getElem?_append_left (by omega)]
  ·rw [if_neg h,if_neg (by omega)]
 ·rw [h1,if_neg (by omega)]
 ·rw [h1,if_pos (by omega),el_one]
  rfl
 ·rw [h2,if_pos (by omega),el_two]
  rfl
 ·rw [h1,if_pos (by omega),el_one]
  rfl
 ·rw [h2,if_pos (by omega),el_two]
  rw [show (((szL ks+2:Nat):Int)).toNat=szL ks+1+1 from by omega,List.getElem?_cons_succ,List.getElem?_cons_succ,List.getElem?_append_right (by omega),hl,Nat.sub_self]
  rfl
theorem lv_none {M:Dm} (h:∀ i e,M i=some e->∀ a ∈ e.ats,a.1≠kLevel) (n:Int):lvM (ofM M [] kLevel n)=0:=by
 have hf:lvM (firstM kLevel)=0:=by decide +kernel
 have hz:lvM []=0:=by decide +kernel
 unfold ofM
 split
 ·rw [ofF]
  split
  ·exact hf
  ·have ht:toldM M [] kLevel n=none:=by
    rw [toldM_nil]
    unfold atM
    cases hm:M n with
    | none=>rfl
    | some e=>
     have:e.ats.find? (fun a=>a.1==kLevel)=none:=List.find?_eq_none.2 fun a ha hb=>h n e hm a ha (by simpa using hb)
     simp only [atOf,this,Option.map_none]
   rw [ht]
   dsimp only
   rw [if_neg (by decide)]
   exact hf
 ·exact hz
theorem ba_of {a:ByteArray} {l:Bs} (h:a.data.toList=l):a=⟨l.toArray⟩:=by
 subst h
 rfl
theorem idxB_one (s:ByteArray) (c:UInt8):Lib.indexB s ⟨#[c]⟩=Lib.indexByte s.data.toList c:=Lib.index_one _ _
theorem idx_at {l r:Bs} (h:∀ b ∈ l,b≠32):Lib.indexB ⟨(l++32 :: r).toArray⟩ ⟨#[32]⟩=l.length:=by
 rcases Lib.indexB_cases ⟨(l++32 :: r).toArray⟩ ⟨#[32]⟩ with h1 | ⟨i,h1, -⟩
 ·rw [idxB_one] at h1
  exact absurd (by simp) (Lib.indexByte_none h1 l.length)
 ·rw [h1]
  rw [idxB_one] at h1
  obtain ⟨k1,k2⟩:=Lib.indexByte_some h1
  simp only at k1 k2
  congr 1
  rcases Nat.lt_trichotomy i l.length with hi | hi | hi
  ·rw [List.getElem?_append_left hi] at k1
   exact absurd rfl (h _ (List.mem_of_getElem? k1))
  ·exact hi
  ·exact absurd (by simp) (k2 l.length hi)
theorem words_cons {l r:Bs} (h:∀ b ∈ l,b≠32):words ⟨(l++32 :: r).toArray⟩=⟨l.toArray⟩ :: words ⟨r.toArray⟩:=by
 have h1:=idx_at (r:=r) h
 have e1:(⟨#[32]⟩:ByteArray).size=1:=rfl
 have h2:=Lib.countB_hit ⟨(l++32 :: r).toArray⟩ ⟨#[32]⟩ l.length (Nat.le_refl 1) h1
 have ext:((⟨(l++32 :: r).toArray⟩:ByteArray).extract (l.length+(⟨#[32]⟩:ByteArray).size) (⟨(l++32 :: r).toArray⟩:ByteArray).size)=⟨r.toArray⟩:=by
  rw [e1]
  have:((⟨(l++32 :: r).toArray⟩:ByteArray).extract (l.length+1) (⟨(l++32 :: r).toArray⟩:ByteArray).size).data.toList=r:=by
   rw [Lib.extract_to_end]
   simp
  exact ba_of this
 rw [ext] at h2
 unfold words
 rw [h2,Nat.add_comm,Lib.splitB_hit _ _ _ _ _ h1,ext]
 congr 1
 have:((⟨(l++32 :: r).toArray⟩:ByteArray).extract 0 (l.length+0)).data.toList=l:=by
  rw [Lib.extract_from_zero]
  simp
 exact ba_of this
theorem words_last {l:Bs} (h:∀ b ∈ l,b≠32):words ⟨l.toArray⟩=[⟨l.toArray⟩]:=by
 have h1:Lib.indexB ⟨l.toArray⟩ ⟨#[32]⟩ = -1:=by
  rcases Lib.indexB_cases ⟨l.toArray⟩ ⟨#[32]⟩ with h1 | ⟨i,h1, -⟩
  ·exact h1
  ·rw [idxB_one] at h1
   exact absurd rfl (h _ (List.mem_of_getElem? (Lib.indexByte_some h1).1))
 unfold words
 rw [Lib.splitB_miss _ _ _ _ h1]
def mvT (x y:Int):Bs:=[109,111,118,101,32]++Lib.itoa x++[32]++Lib.itoa y
def itG (k:Nat):Bool:=(Lib.itoa ((k:Int) - 50)).all (fun b=>b != 32) && (rd (Lib.itoa ((k:Int) - 50))).n==(k:Int) - 50 && (rd (Lib.itoa ((k:Int) - 50))).d==1 && (rd (Lib.itoa ((k:Int) - 50))).c==0 && decide ((Lib.itoa ((k:Int) - 50)).length<=3)
theorem it_all:(List.range 101).all itG=true:=by decide +kernel
theorem it_of {x:Int} (h1 : -50<=x) (h2:x<=50):(∀ b ∈ Lib.itoa x,b≠32)/\rd (Lib.itoa x)=⟨x,1,0⟩/\(Lib.itoa x).length<=3:=by
 have h:=List.all_eq_true.1 it_all (x+50).toNat (List.mem_range.2 (by omega))
 unfold itG at h
 rw [show (((x+50).toNat:Nat):Int) - 50=x from by omega] at h
 simp only [Bool.and_eq_true,List.all_eq_true,bne_iff_ne,ne_eq,beq_iff_eq,decide_eq_true_eq] at h
 obtain ⟨⟨⟨⟨a,b⟩,c⟩,d⟩,e⟩:=h
 exact ⟨a,by cases hr:rd (Lib.itoa x);rw [hr] at b c d;simp only at b c d;rw [b,c,d],e⟩
theorem mv_read {x y:Int} (hx1 : -50<=x) (hx2:x<=50) (hy1 : -50<=y) (hy2:y<=50):readR ⟨(mvT x y).toArray⟩=(shM x y,0):=by
 obtain ⟨a1,a2,a3⟩:=it_of hx1 hx2
 obtain ⟨b1,b2,b3⟩:=it_of hy1 hy2
 have hw:words ⟨(mvT x y).toArray⟩=[bMove,⟨(Lib.itoa x).toArray⟩,⟨(Lib.itoa y).toArray⟩]:=by
  have:mvT x y=[109,111,118,101]++32 :: (Lib.itoa x++32 :: Lib.itoa y):=by simp [mvT]
  rw [this,words_cons (by decide),words_cons a1,words_last b1]
 have hl:listR ⟨(mvT x y).toArray⟩=([shM x y],0):=by
  unfold listR
  rw [if_neg (by show ¬ (mvT x y).toArray.size=0;simp [mvT]),hw]
  have hk:kdOf bMove=some .move:=by unfold kdOf;rw [if_pos rfl]
  have hr:kdR .move [⟨(Lib.itoa x).toArray⟩,⟨(Lib.itoa y).toArray⟩]=(shM x y,0):=by
   simp only [kdR,rd2,rdC,rdF,a2,b2]
   rfl
  simp only [List.length_cons,List.length_nil,readL,hk,hr]
  rfl
 unfold readR
 rw [hl]
 have ho:(shM x y).ok:=⟨whole_ok (by decide),whole_ok (by decide),whole_ok (by decide),whole_ok (by decide),whole_ok (by omega),whole_ok (by omega)⟩
 simp only [List.reverse_cons,List.reverse_nil,List.nil_append,foldR,one_thenS ho,if_true]
theorem no_read:readR ⟨#[]⟩=(.one,0):=by decide +kernel
end Go.Proofs.YtgphclgmmocdhaaGreatDoor

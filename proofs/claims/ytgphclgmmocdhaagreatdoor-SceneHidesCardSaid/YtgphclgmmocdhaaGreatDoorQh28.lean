/-
  Parts of the proof.
-/
import Derived.Test.YtgphclgmmocdhaaGreatDoorQh27
namespace Go.Proofs.YtgphclgmmocdhaaGreatDoor
section
open Go.RowKit
set_option maxHeartbeats 2000000
theorem cellsA_at:∀ {l:List (Bs × Bs)} {i:Nat} {x:Bs × Bs},l[i]? = some x->(cellsA l)[i * 2]? = some (.string ⟨x.1.toArray⟩)/\(cellsA l)[i * 2+1]? = some (.string ⟨x.2.toArray⟩)
  | [],_,_,h=>by simp at h
  | y :: l,0,x,h=>by
    simp at h
    subst h
    exact ⟨rfl,rfl⟩
  | y :: l,i+1,x,h=>by
    have h1:=cellsA_at (l:=l) (i:=i) (x:=x) (by simpa using h)
    rw [show (i+1) * 2=i * 2+1+1 from by omega]
    exact ⟨by simpa [cellsA] using h1.1,by simpa [cellsA] using h1.2⟩
theorem atOf_fI:∀ (l:List (Bs × Bs)) (nm:Bs) (k:Nat),(fI nm k l = -1/\atOf l nm=none)\/∃ i x,fI nm k l=((k+i:Nat):Int)/\l[i]? = some x/\atOf l nm=some x.2
  | [],_,_=>.inl ⟨rfl,rfl⟩
  | x :: l,nm,k=>by
    unfold fI atOf
    rw [List.find?_cons]
    cases hx:(x.1==nm) with
    | true=>exact .inr ⟨0,x,by simp,rfl,rfl⟩
    | false=>
      rcases atOf_fI l nm (k+1) with ⟨h1,h2⟩ | ⟨i,y,h1,h2,h3⟩
      · exact .inl ⟨by simpa using h1,h2⟩
      · exact .inr ⟨i+1,y,by rw [if_neg (by simp),h1];congr 1;omega,by simpa using h2,h3⟩
theorem sameAt_any (x:Bs × Bs) (nm:Bs) (B:Nat) (W:World) (hB:W.cell? ⟨B,0,none⟩=some (strV nm)) :
    Calls Tryz.prog 71 #[atV x,.pointer (some ⟨B,0,none⟩)] W fun e w'=>e=.returned (.bool (x.1==nm))/\Below W.heap.size W w':=by
  have hB':=fun o=>mcell_al o hB
  unfold atV strV at *
  go_enter Tryz.func71,Tryz.ntmps71
  go_wp2
  go_ret
  exact ⟨rfl,(Below.refl _ W).alloc Nat.le.refl _⟩
theorem PlaceF_any (ats:List (Bs × Bs)) (nm:Bs) (B B0:Nat) (v:Value) (W:World) (h:W.ownsRow B0 49 2 v ats.length (cellsA ats)) (hB:W.cell? ⟨B,0,none⟩=some (strV nm)) :
    Calls Tryz.prog 70 #[v,.func (.func 71) #[] #[.pointer (some ⟨B,0,none⟩)]] W fun e w'=>e=.returned (.int .i64 (fI nm 0 ats))/\Below W.heap.size W w':=by
  obtain ⟨o,cap,hvo,h1,h2,h3,h5⟩:=row_slice h
  have hlen:(ats.length:Int)<=9223372036854775807:=by rw [maxLen_eq] at h2;omega
  by_cases h0:ats.length=0
  · obtain rfl:ats=[]:=List.length_eq_zero_iff.1 h0
    subst hvo
    clear h h5
    go_enter Tryz.func70,Tryz.ntmps70
    go_wp2_with fail
    go_loopw [8] (fun y wr=>y=.int .i64 0/\wr=W) (fun _ _=>0)
    case atStart=>exact ⟨rfl,rfl⟩
    case round=>
      obtain ⟨rfl,rfl⟩:=hrel
      go_wp2_with fail
      go_ret
      exact ⟨rfl,Below.refl _ _⟩
  · obtain ⟨x0,hx0, -⟩:=drop_at (l:=ats) (k:=0) (by omega)
    obtain ⟨g,hg, -⟩:=row_get h _ _ (cellsA_at hx0).1
    have hog:=h5 g hg
    subst hvo hog
    have H4:Hid (∀ k x,ats[k]? = some x->W.cell? ⟨g,k * 2,none⟩=some (.string ⟨x.1.toArray⟩)/\W.cell? ⟨g,k * 2+1,none⟩=some (.string ⟨x.2.toArray⟩)):=(fun k x hx=>by
      obtain ⟨g1,hg1,c1⟩:=row_get h _ _ (cellsA_at hx).1
      obtain ⟨g2,hg2,c2⟩:=row_get h _ _ (cellsA_at hx).2
      rw [hg] at hg1 hg2
      cases hg1
      cases hg2
      exact ⟨c1,c2⟩:∀ k x,ats[k]? = some x->W.cell? ⟨g,k * 2,none⟩=some (.string ⟨x.1.toArray⟩)/\W.cell? ⟨g,k * 2+1,none⟩=some (.string ⟨x.2.toArray⟩))
    clear h hx0 h3 h5 x0 hg
    have hcap:(ats.length:Int)<=(cap:Int):=by omega
    go_enter Tryz.func70,Tryz.ntmps70
    go_wp2_with fail
    go_loopw [8] (fun y wr=>∃ k:Nat,k<=ats.length/\y=.int .i64 k/\fI nm 0 ats=fI nm k (ats.drop k)/\Below W.heap.size W wr) (fun y _=>ats.length - (intOf y).toNat)
    case atStart=>exact ⟨0,Nat.zero_le _,rfl,rfl,Below.refl _ _⟩
    case round=>
      obtain ⟨k,hk,rfl,hf,hb⟩:=hrel
      by_cases hlt:k<ats.length
      · have hlt':(k:Int)<(ats.length:Int):=by omega
        obtain ⟨x,hx,hd⟩:=drop_at hlt
        obtain ⟨c0,c1⟩:=H4.out k x hx
        have k0:=(hb.cell (cell_lt3 c0)).trans c0
        have k1:=(hb.cell (cell_lt3 c1)).trans c1
        have hB1:=(hb.cell (cell_lt3 hB)).trans hB
        have HS:=sameAt_any x nm B wr hB1
        unfold atV strV at HS
        rw [hd] at hf
        clear c0 c1 hx hd
        cases hs:(x.1==nm) with
        | true=>
          rw [hs] at HS
          have hf':Hid (fI nm 0 ats=k):=(by rw [hf];unfold fI;rw [if_pos hs]:fI nm 0 ats=k)
          clear hf hs
          go_wp2_with (go_at_call 71;refine HS.mono ?_;rintro e w1 ⟨rfl,hb1⟩)
          go_ret
          exact ⟨by rw [hf'.out];rfl,mbel hb hb1⟩
        | false=>
          rw [hs] at HS
          have hf0:fI nm k (x :: ats.drop (k+1))=fI nm (k+1) (ats.drop (k+1)):=by rw [fI,if_neg (by rw [hs];simp)]
          have hf':Hid (fI nm 0 ats=fI nm (k+1) (ats.drop (k+1))):=hf.trans hf0
          clear hf0
          clear hf hs
          go_wp2_with (go_at_call 71;refine HS.mono ?_;rintro e w1 ⟨rfl,hb1⟩)
          go_roundw
          case rel=>exact ⟨k+1,by omega,by go_num,hf'.out,mbel hb hb1⟩
          case measure=>simp [intOf];omega
      · obtain rfl:k=ats.length:=by omega
        have hf':Hid (fI nm 0 ats = -1):=(by rw [hf,List.drop_length];rfl:fI nm 0 ats = -1)
        clear hf
        go_wp2_with fail
        go_ret
        exact ⟨by rw [hf'.out];rfl,hb⟩
section
variable {B:Nat} {tg:Tags} {W:World} {DB MB:Nat} {p:Int->Option Nat} {M:Dm} {nx c:Nat}
theorem placeOf_any {i:Int} {b:Nat} {e:Elm} {va vk:Value} (he:ElW B tg W i b e va vk) (nm:Bs) :
    Calls Tryz.prog 39 #[.pointer (some ⟨b,0,none⟩),.string ⟨nm.toArray⟩] W fun r w'=>r=.returned (.int .i64 (fI nm 0 e.ats))/\Below W.heap.size W w':=by
  have b1:=(Below.refl W.heap.size W).alloc Nat.le.refl (.cells #[.string ⟨nm.toArray⟩] 9)
  have x1:=(b1.cell (cell_lt3 he.c1)).trans he.c1
  have hats:=own_bel he.ats b1
  have hB:(W.alloc (.cells #[.string ⟨nm.toArray⟩] 9)).cell? ⟨W.heap.size,0,none⟩=some (strV nm):=bcell (mbox W #[.string ⟨nm.toArray⟩] 9) 0 _ rfl
  obtain ⟨ov,kv,rfl⟩:=own_slice he.ats
  have PF:=PlaceF_any e.ats nm W.heap.size B _ _ hats hB
  go_enter Tryz.func39,Tryz.ntmps39
  go_wp2_with (go_at_call 70;refine PF.mono ?_;rintro r w1 ⟨rfl,hb1⟩)
  go_ret
  exact ⟨rfl,mbel b1 hb1⟩
def attD (M:Dm) (n:Int) (nm:Bs):Option Bs:=match M n with | none=>none | some e=>atOf e.ats nm
theorem Attr_doc (h:DocW B tg W DB MB p M nx c) (n:Int) (hn:Wf64 n) (nm:Bs) :
    Calls Tryz.prog 28 #[.pointer (some ⟨DB,0,none⟩),.int .i64 n,.string ⟨nm.toArray⟩] W fun r w'=>r=.returned (.tuple #[.string ⟨((attD M n nm).getD []).toArray⟩,.bool (attD M n nm).isSome])/\Below W.heap.size W w':=by
  have d0:=h.d0
  unfold attD
  cases hm:M n with
  | none=>
    have hp:=h.non n hm
    go_enter Tryz.func28,Tryz.ntmps28
    go_wp2_with (at_lookup;refine look_no _ rfl _ _ 90 rfl Tryz.underlying3 Tryz.underlying90 (zeroEl _) rfl h.map n rfl hn hp ?_)
    refine bodyPost_ret (v:=.tuple #[.string ⟨#[]⟩,.bool false]) (by simp [results,Tryz.results28,go_sem]) rfl ⟨rfl,Below.refl _ _⟩
  | some e=>
    obtain ⟨b,va,vk,hp,he⟩:=h.els n e hm
    have PO:=placeOf_any he nm
    simp only
    rcases atOf_fI e.ats nm 0 with ⟨h1,h2⟩ | ⟨i,x,h1,h2,h3⟩
    · rw [h1] at PO
      rw [h2]
      go_enter Tryz.func28,Tryz.ntmps28
      go_wp2_with (first | (at_lookup;refine look_yes _ rfl _ _ 90 rfl Tryz.underlying3 Tryz.underlying90 (zeroEl _) rfl h.map n rfl hn b hp ?_) | (go_at_call 39;refine PO.mono ?_;rintro r w1 ⟨rfl,hb1⟩))
      refine bodyPost_ret (v:=.tuple #[.string ⟨#[]⟩,.bool false]) (by simp [results,Tryz.results28,go_sem]) rfl ⟨rfl,hb1⟩
    · rw [Nat.zero_add] at h1
      rw [h1] at PO
      rw [h3]
      obtain ⟨g,hg,c2⟩:=row_get he.ats _ _ (cellsA_at h2).2
      obtain ⟨o,cap,hvo,q1,q2,q3,q5⟩:=row_slice he.ats
      have hog:=q5 g hg
      subst hvo hog
      have hil:=(List.getElem?_eq_some_iff.1 h2).1
      have hil':(i:Int)<(e.ats.length:Int):=by omega
      have x1:=he.c1
      have HC:Hid (W.cell? ⟨g,i * 2+1,none⟩=some (.string ⟨x.2.toArray⟩)):=c2
      clear c2 hg q5
      go_enter Tryz.func28,Tryz.ntmps28
      go_wp2_with (first | (at_lookup;refine look_yes _ rfl _ _ 90 rfl Tryz.underlying3 Tryz.underlying90 (zeroEl _) rfl h.map n rfl hn b hp ?_) | (go_at_call 39;refine PO.mono ?_;rintro r w1 ⟨rfl,hb1⟩;have k1:=(hb1.cell (cell_lt3 x1)).trans x1;have k2:=(hb1.cell (cell_lt3 HC.out)).trans HC.out))
      refine bodyPost_ret (v:=.tuple #[.string ⟨x.2.toArray⟩,.bool true]) (by simp [results,Tryz.results28,go_sem]) rfl ⟨rfl,hb1⟩
end
end
section
open Go.RowKit
def tagA (tg:Tags) (i:Int) (v:Value):Tags:=fun x=>if v.ownBlock=some x then some (.ats i) else tg x
theorem DocW.atsW {B:Nat} {tg:Tags} {w w8:World} {DB MB:Nat} {p:Int->Option Nat} {M:Dm} {nx c EB:Nat} {i:Int} {e:Elm} {va vk v7:Value} {L:List (Bs × Bs)} (h:DocW B tg w DB MB p M nx c) (hi:M i=some e) (hp:p i=some EB) (he:ElW B tg w i EB e va vk)
    (hE:w8.heap[EB]? = some (.cells #[.string ⟨e.name.toArray⟩,v7,.int .i64 e.parent,vk] 97)) (ow7:w8.ownsRow B 49 2 v7 L.length (cellsA L)) (loc7:v7.ownBlock=va.ownBlock\/∀ g,v7.ownBlock=some g->w.heap.size<=g)
    (ho:w8.os=w.os) (ht:w8.tape=w.tape) (hu:w8.output=w.output) (hz:w.heap.size<=w8.heap.size) (blk:∀ x,x<w.heap.size->x≠EB->va.ownBlock≠some x->w8.heap[x]? = w.heap[x]?) :
    DocW B (tagA tg i v7) w8 DB MB p (putE M i ⟨e.name,L,e.parent,e.kids⟩) nx c/\(∀ x,x<w.heap.size->tagA tg i v7 x=tg x)/\KT tg w w8:=by
  have hEB:=heap_lt he.cells
  have neE:va.ownBlock≠some EB:=fun e1=>by have h1:=he.atag EB e1;rw [he.tag] at h1;cases h1
  have tk:∀ x,x<w.heap.size->tagA tg i v7 x=tg x:=fun x hx=>by
    unfold tagA
    split
    · rename_i h1
      rcases loc7 with h2 | h2
      · exact (he.atag x (h2.symm.trans h1)).symm
      · have:=h2 x h1;omega
    · rfl
  refine ⟨h.put hi hp (va:=v7) (vk:=vk) ⟨hE,?_,ow7,?_,?_,?_⟩ hz (h.wf i e hi) tk ?_ ?_ ?_,tk,⟨ho,ht,hu,hz,fun x hx hn=>?_⟩⟩
  · rw [tk EB hEB];exact he.tag
  · intro g hg
    unfold tagA
    rw [if_pos hg]
  · exact own_same he.kids fun g hg=>blk g (he.kids.lt g hg).2 (fun e1=>by have h1:=he.ktag g hg;rw [e1,he.tag] at h1;cases h1) (fun e1=>by have h1:=he.ktag g hg;rw [he.atag g e1] at h1;cases h1)
  · intro g hg
    rw [tk g (he.kids.lt g hg).2];exact he.ktag g hg
  · intro x t ht
    unfold tagA at ht
    split at ht
    · rename_i h1
      exact ow7.lt x h1
    · have:=h.low x t ht
      omega
  · intro x hx
    unfold tagA
    split
    · exact .inr (.inr (.inl rfl))
    · exact .inl (h.new hx)
  · intro x t ht h1 h2 h3
    exact blk x (h.low x t ht).2 (fun e1=>by rw [e1,he.tag] at ht;cases ht;exact h1 rfl) (fun e1=>by rw [he.atag x e1] at ht;cases ht;exact h2 rfl)
  · exact blk x hx (fun e1=>by rw [e1,he.tag] at hn;cases hn) (fun e1=>by rw [he.atag x e1] at hn;cases hn)
theorem setA_no:∀ (l:List (Bs × Bs)) (nm v:Bs),atOf l nm=none->setA l nm v=l++[(nm,v)]
  | [],_,_,_=>rfl
  | a :: l,nm,v,h=>by
    rw [atOf_cons] at h
    rw [setA]
    by_cases hk:(a.1==nm)=true
    · rw [if_pos hk] at h;cases h
    · rw [if_neg hk] at h ⊢
      rw [setA_no l nm v h];rfl
theorem fI_setA:∀ (l:List (Bs × Bs)) (nm v:Bs) (k i:Nat),fI nm k l=((k+i:Nat):Int)->setA l nm v=l.set i (nm,v)/\offA l nm=l.take i++l.drop (i+1)/\∃ x,l[i]? = some x/\x.1=nm
  | [],nm,v,k,i,h=>by unfold fI at h;omega
  | a :: l,nm,v,k,i,h=>by
    unfold fI at h
    rw [setA,offA]
    by_cases hk:(a.1==nm)=true
    · rw [if_pos hk] at h ⊢
      rw [if_pos hk]
      obtain rfl:i=0:=by omega
      exact ⟨rfl,by simp,a,rfl,eq_of_beq hk⟩
    · rw [if_neg hk] at h ⊢
      rw [if_neg hk]
      have hi:1<=i:=by
        rcases atOf_fI l nm (k+1) with ⟨h1, -⟩ | ⟨j,x,h1, -⟩ <;> omega
      obtain ⟨j,rfl⟩:∃ j,i=j+1:=⟨i - 1,by omega⟩
      obtain ⟨h1,h2,x,h3,h4⟩:=fI_setA l nm v (k+1) j (by rw [h];congr 1;omega)
      exact ⟨by rw [h1];rfl,by rw [h2];simp,x,by simpa using h3,h4⟩
theorem cellsA_set:∀ (l:List (Bs × Bs)) (i:Nat) (nm v:Bs),(∃ x,l[i]? = some x/\x.1=nm)->(cellsA l).set (i * 2+1) (.string ⟨v.toArray⟩)=cellsA (l.set i (nm,v))
  | [],_,_,_,⟨x,h,_⟩=>by simp at h
  | a :: l,0,nm,v,⟨x,h,hx⟩=>by
    simp at h
    subst h hx
    rfl
  | a :: l,i+1,nm,v,⟨x,h,hx⟩=>by
    have:=cellsA_set l i nm v ⟨x,by simpa using h,hx⟩
    rw [show (i+1) * 2+1=i * 2+1+1+1 from by omega]
    simp only [cellsA,List.cons_append,List.nil_append,List.set_cons_succ,this]
end
section
open Go.RowKit
set_option maxHeartbeats 4000000
set_option maxRecDepth 20000
def setM (M:Dm) (n:Int) (nm v:Bs):Except Nat Dm:=match M n with
  | none=>.error 5
  | some e=>if isNm nm=false then .error 4 else if isVal v=false then .error 10 else if (atOf e.ats nm).isSome=false/\12<=e.ats.length then .error 7 else .ok (atsE M n e (setA e.ats nm v))
def SetR (E:Nat->Addr) (B:Nat) (tg:Tags) (W:World) (DB MB:Nat) (p:Int->Option Nat) (nx c:Nat) (x:Except Nat Dm) (e:Ending) (w':World):Prop:=match x with
  | .error k=>e=.returned (.iface 409 (.pointer (some (E k))))/\Below W.heap.size W w'
  | .ok M'=>e=.returned .nilIface/\KT tg W w'/\∃ tg',(∀ x,x<W.heap.size->tg' x=tg x)/\DocW B tg' w' DB MB p M' nx c
theorem own_setC {w:World} {B k n g cap:Nat} {e:TypeId} {xs:List Value} (h:w.ownsRow B e k (.slice (some ⟨g,0,none⟩) n cap) n xs) (j:Nat) (v:Value):(w.setCell ⟨g,j,none⟩ v).ownsRow B e k (.slice (some ⟨g,0,none⟩) n cap) n (xs.set j v):=by
  obtain ⟨h1,h2⟩:=h
  refine ⟨by rw [List.length_set];exact h1,?_⟩
  rcases h2 with ⟨h2,_⟩ | ⟨g',cap',cur,h3,h4,h5,h6,h7,h8,h9⟩
  · cases h2
  · cases h3
    refine .inr ⟨g,cap,cur.setIfInBounds j v,rfl,h4,heap_setCell_same w g j cur e v h5,h6,h7,by simpa using h8,?_⟩
    rw [<- h9,Array.toList_setIfInBounds,List.take_set]
theorem own_frozC {w:World} {B k n g cap:Nat} {e:TypeId} {xs:List Value} (h:w.ownsRow B e k (.slice (some ⟨g,0,none⟩) n cap) n xs) (j:Nat):w.frozen? ⟨g,j,none⟩=false:=by
  rcases h.2 with ⟨h2,_⟩ | ⟨g',cap',cur,h3,h4,h5, -⟩
  · cases h2
  · cases h3
    exact froz_at h5 j
section
variable {E:Nat->Addr} {B:Nat} {tg:Tags} {W:World} {DB MB:Nat} {p:Int->Option Nat} {M:Dm} {nx c:Nat}
theorem Set_doc (hE:DE E W) (h:DocW B tg W DB MB p M nx c) (hB:B<=W.heap.size) (n:Int) (hn:Wf64 n) (nm v:Bs) (hnl:nm.length<=1000000) (hvl:v.length<=1000000) :
    Calls Tryz.prog 11 #[.pointer (some ⟨DB,0,none⟩),.int .i64 n,.string ⟨nm.toArray⟩,.string ⟨v.toArray⟩] W fun e w'=>SetR E B tg W DB MB p nx c (setM M n nm v) e w':=by
  have d0:=h.d0
  have k4:=hE.c4
  have k5:=hE.c5
  have k10:=hE.c10
  unfold setM
  cases hm:M n with
  | none=>
    have hp:=h.non n hm
    simp only
    go_enter Tryz.func11,Tryz.ntmps11
    go_wp2_with (at_lookup;refine look_no _ rfl _ _ 90 rfl Tryz.underlying3 Tryz.underlying90 (zeroEl _) rfl h.map n rfl hn hp ?_)
    go_ret
    exact ⟨rfl,Below.refl _ _⟩
  | some e=>
    obtain ⟨EB,va,vk,hp,he⟩:=h.els n e hm
    have IN:=IsName_any ⟨nm.toArray⟩ (by show nm.length<=_;omega) W
    have IV:=IsValue_any ⟨v.toArray⟩ (by show v.length<=_;omega) W
    simp only at IN IV
    simp only
    cases hnm:isNm nm with
    | false=>
      rw [hnm] at IN
      rw [if_pos rfl]
      go_enter Tryz.func11,Tryz.ntmps11
      go_wp2_with (first | (at_lookup;refine look_yes _ rfl _ _ 90 rfl Tryz.underlying3 Tryz.underlying90 (zeroEl _) rfl h.map n rfl hn EB hp ?_) | (go_at_call 37;refine IN.mono ?_;rintro e1 w1 ⟨rfl,rfl⟩))
      go_ret
      exact ⟨rfl,Below.refl _ _⟩
    | true=>
      rw [hnm] at IN
      rw [if_neg (by simp)]
      cases hvv:isVal v with
      | false=>
        rw [hvv] at IV
        rw [if_pos rfl]
        go_enter Tryz.func11,Tryz.ntmps11
        go_wp2_with (first | (at_lookup;refine look_yes _ rfl _ _ 90 rfl Tryz.underlying3 Tryz.underlying90 (zeroEl _) rfl h.map n rfl hn EB hp ?_) | (go_at_call 37;refine IN.mono ?_;rintro e1 w1 ⟨rfl,rfl⟩) | (go_at_call 38;refine IV.mono ?_;rintro e1 w1 ⟨rfl,rfl⟩))
        go_ret
        exact ⟨rfl,Below.refl _ _⟩
      | true=>
        rw [hvv] at IV
        rw [if_neg (by simp)]
        have PO:=placeOf_any he nm
        have hlen:e.ats.length<=maxLen:=by
          obtain ⟨o,cap, -,h2,h3, -⟩:=row_slice he.ats
          omega
        rcases atOf_fI e.ats nm 0 with ⟨hf,hat⟩ | ⟨i,x,hf,hix,hat⟩
        · rw [hf] at PO
          rw [hat]
          obtain ⟨ov,kv,hvo⟩:=own_slice he.ats
          subst hvo
          by_cases h12:12<=e.ats.length
          · rw [if_pos ⟨rfl,h12⟩]
            have h12z:(12:Int)<=(e.ats.length:Int):=by omega
            have C1:∀ w1,Below W.heap.size W w1->w1.cell? ⟨EB,1,none⟩=some (.slice ov e.ats.length kv)/\w1.cell? ⟨3,0,none⟩=some (.iface 409 (.pointer (some (E 7)))):=fun w1 b1=>⟨(b1.cell (cell_lt3 he.c1)).trans he.c1,(b1.cell (cell_lt3 hE.c7)).trans hE.c7⟩
            go_enter Tryz.func11,Tryz.ntmps11
            go_wp2_with (first | (at_lookup;refine look_yes _ rfl _ _ 90 rfl Tryz.underlying3 Tryz.underlying90 (zeroEl _) rfl h.map n rfl hn EB hp ?_) | (go_at_call 37;refine IN.mono ?_;rintro e1 w1 ⟨rfl,rfl⟩) | (go_at_call 38;refine IV.mono ?_;rintro e1 w1 ⟨rfl,rfl⟩) | (go_at_call 39;refine PO.mono ?_;rintro e1 w1 ⟨rfl,b1⟩;obtain ⟨q1,q7⟩:=C1 w1 b1))
            go_ret
            exact ⟨rfl,b1⟩
          · rw [if_neg (fun hh=>h12 hh.2)]
            have h12z:(e.ats.length:Int)<12:=by omega
            obtain ⟨i0,hi,hz0,hz1,hz2⟩:=info_parts attrInfo
            have C1:∀ w1,Below W.heap.size W w1->w1.cell? ⟨EB,1,none⟩=some (.slice ov e.ats.length kv):=fun w1 b1=>(b1.cell (cell_lt3 he.c1)).trans he.c1
            have OW:∀ w1,Below W.heap.size W w1->(w1.alloc (.cells #[.string ⟨nm.toArray⟩,.string ⟨v.toArray⟩] 49)).ownsRow B 49 2 (.slice ov e.ats.length kv) e.ats.length (cellsA e.ats):=fun w1 b1=>World.ownsRow.alloc (own_bel he.ats b1) _
            have neE:some EB≠(Value.slice ov e.ats.length kv).ownBlock:=fun e1=>by have h1:=he.atag EB e1.symm;rw [he.tag] at h1;cases h1
            have E7:∀ w1,Below W.heap.size W w1->∀ w7,(w1.alloc (.cells #[.string ⟨nm.toArray⟩,.string ⟨v.toArray⟩] 49)).grownBy w7 (Value.slice ov e.ats.length kv).ownBlock->w7.heap[EB]? = some (.cells #[.string ⟨e.name.toArray⟩,.slice ov e.ats.length kv,.int .i64 e.parent,vk] 97):=fun w1 b1 w7 gr=>by
              have b2:=mbel b1 (mal w1 (.cells #[.string ⟨nm.toArray⟩,.string ⟨v.toArray⟩] 49))
              exact (gr.block EB (Nat.lt_of_lt_of_le (heap_lt he.cells) b2.size) neE).trans ((b2.block EB (heap_lt he.cells)).trans he.cells)
            go_enter Tryz.func11,Tryz.ntmps11
            go_upto_region 14 with (first | (at_lookup;refine look_yes _ rfl _ _ 90 rfl Tryz.underlying3 Tryz.underlying90 (zeroEl _) rfl h.map n rfl hn EB hp ?_) | (go_at_call 37;refine IN.mono ?_;rintro e1 w1 ⟨rfl,rfl⟩) | (go_at_call 38;refine IV.mono ?_;rintro e1 w1 ⟨rfl,rfl⟩) | (go_at_call 39;refine PO.mono ?_;rintro e1 w1 ⟨rfl,b1⟩;have q1:=C1 w1 b1;have ow1:=OW w1 b1;have H0:=mbox w1 #[.string ⟨nm.toArray⟩,.string ⟨v.toArray⟩] 49;have hs1:=b1.size))
            go_wp2_with (at_builtin;(refine wpList_append_own_at _ rfl _ _ 22 rfl B 49 i0 (.agg #[.string ⟨#[]⟩,.string ⟨#[]⟩]) 2 32 Tryz.underlying22 hi hz0 hz1 hz2 rfl (by decide) _ _ _ rfl ow1 ⟨w1.heap.size,0,none⟩ 1 1 [.string ⟨nm.toArray⟩,.string ⟨v.toArray⟩] rfl rfl (World.news_of_block H0) (fun u hu=>by simp at hu;rcases hu with rfl | rfl <;> rfl) (by simp only [maxLen];omega) (by omega) (by simp;omega) ?_;intro v7 w7 ow7 gr8 _ at8;obtain ⟨o7,c7,rfl⟩:=own_slice ow7;have gr8:(w1.alloc (.cells #[.string ⟨nm.toArray⟩,.string ⟨v.toArray⟩] 49)).grownBy w7 (Value.slice ov e.ats.length kv).ownBlock:=gr8;have at8:(Value.slice o7 (e.ats.length+1) c7).ownBlock=(Value.slice ov e.ats.length kv).ownBlock\/(Value.slice o7 (e.ats.length+1) c7).ownBlock=some (w1.alloc (.cells #[.string ⟨nm.toArray⟩,.string ⟨v.toArray⟩] 49)).heap.size:=at8;clear gr8 at8;have e7:=E7 w1 b1 w7 gr8;have e70:=bcell e7 1 _ rfl;have e7f:=froz_at e7))
            go_ret
            have b2:=mbel b1 (mal w1 (.cells #[.string ⟨nm.toArray⟩,.string ⟨v.toArray⟩] 49))
            have ow8:w7.ownsRow B 49 2 (.slice o7 (e.ats.length+1) c7) (setA e.ats nm v).length (cellsA (setA e.ats nm v)):=by
              rw [setA_no e.ats nm v hat,cellsA_snoc,List.length_append]
              exact ow7
            have ne7:(Value.slice o7 (e.ats.length+1) c7).ownBlock≠some EB:=fun e1=>by
              rcases at8 with h1 | h1
              · exact neE (e1.symm.trans h1)
              · rw [h1] at e1
                have:=heap_lt he.cells
                have:=b2.size
                cases e1
                omega
            have r1:=h.atsW hm hp he (w8:=w7.setCell ⟨EB,1,none⟩ (.slice o7 (e.ats.length+1) c7)) (v7:=.slice o7 (e.ats.length+1) c7) (L:=setA e.ats nm v) (by rw [heap_setCell_same w7 EB 1 _ _ _ e7];rfl) (own_same ow8 fun g hg=>Below.heap_setCell _ _ _ g (fun e1=>ne7 (by rw [hg,e1]))) (at8.imp id fun h1 g hg=>by rw [h1] at hg;cases hg;exact b2.size) (gr8.os.trans b2.os) (gr8.tape.trans b2.tape) (gr8.output.trans b2.output) (by rw [World.size_setCell];exact Nat.le_trans b2.size gr8.size) (fun x hx h1 h2=>by rw [Below.heap_setCell _ _ _ x h1,gr8.block x (Nat.lt_of_lt_of_le hx b2.size) (fun e1=>h2 e1.symm),b2.block x hx])
            exact ⟨rfl,r1.2.2,_,r1.2.1,r1.1⟩
        · rw [Nat.zero_add] at hf
          rw [hf] at PO
          rw [hat,if_neg (fun hh=>by simp at hh)]
          obtain ⟨hset, -,hx1⟩:=fI_setA e.ats nm v 0 i (by rw [hf,Nat.zero_add])
          obtain ⟨hil, -⟩:=List.getElem?_eq_some_iff.1 hix
          obtain ⟨g,hg, -⟩:=row_get he.ats _ _ (cellsA_at hix).2
          obtain ⟨ov,kv,hvo,hkv,hkm, -,h5⟩:=row_slice he.ats
          have hov:=h5 g hg
          subst hvo hov
          have hiz:(i:Int)<(e.ats.length:Int):=by omega
          have hkz:(e.ats.length:Int)<=(kv:Int):=by omega
          have neG:g≠EB:=fun e1=>by have h1:=he.atag g hg;rw [e1,he.tag] at h1;cases h1
          have C1:∀ w1,Below W.heap.size W w1->w1.cell? ⟨EB,1,none⟩=some (.slice (some ⟨g,0,none⟩) e.ats.length kv)/\w1.cell? ⟨g,i * 2+1,none⟩=some (.string ⟨x.2.toArray⟩)/\w1.frozen? ⟨g,i * 2+1,none⟩=false:=fun w1 b1=>by
            obtain ⟨g',hg',hc⟩:=row_get (own_bel he.ats b1) _ _ (cellsA_at hix).2
            rw [hg] at hg'
            cases hg'
            exact ⟨(b1.cell (cell_lt3 he.c1)).trans he.c1,hc,own_frozC (own_bel he.ats b1) _⟩
          go_enter Tryz.func11,Tryz.ntmps11
          go_wp2_with (first | (at_lookup;refine look_yes _ rfl _ _ 90 rfl Tryz.underlying3 Tryz.underlying90 (zeroEl _) rfl h.map n rfl hn EB hp ?_) | (go_at_call 37;refine IN.mono ?_;rintro e1 w1 ⟨rfl,rfl⟩) | (go_at_call 38;refine IV.mono ?_;rintro e1 w1 ⟨rfl,rfl⟩) | (go_at_call 39;refine PO.mono ?_;rintro e1 w1 ⟨rfl,b1⟩;obtain ⟨q1,q2,q3⟩:=C1 w1 b1))
          go_ret
          have ow8:=own_setC (own_bel he.ats b1) (i * 2+1) (.string ⟨v.toArray⟩)
          rw [cellsA_set e.ats i nm v hx1,<- hset] at ow8
          have hl8:e.ats.length=(setA e.ats nm v).length:=by rw [hset,List.length_set]
          have hE8:(w1.setCell ⟨g,i * 2+1,none⟩ (.string ⟨v.toArray⟩)).heap[EB]? = some (.cells #[.string ⟨e.name.toArray⟩,.slice (some ⟨g,0,none⟩) e.ats.length kv,.int .i64 e.parent,vk] 97):=(Below.heap_setCell _ _ _ EB (fun e1=>neG e1.symm)).trans ((b1.block EB (heap_lt he.cells)).trans he.cells)
          have hsz:=World.size_setCell w1 ⟨g,i * 2+1,none⟩ (.string ⟨v.toArray⟩)
          have hst:=(Below.refl g w1).setCell (p:=⟨g,i * 2+1,none⟩) Nat.le.refl (.string ⟨v.toArray⟩)
          have r1:=h.atsW hm hp he (L:=setA e.ats nm v) hE8 (by rw [<- hl8];exact ow8) (.inl rfl) (hst.os.trans b1.os) (hst.tape.trans b1.tape) (hst.output.trans b1.output) (by rw [hsz];exact b1.size) (fun y hy h1 h2=>by rw [Below.heap_setCell _ _ _ y (fun e1=>h2 (by rw [hg,e1])),b1.block y hy])
          exact ⟨rfl,r1.2.2,_,r1.2.1,r1.1⟩
end
end
end Go.Proofs.YtgphclgmmocdhaaGreatDoor

/-
  Parts of the proof.
-/
import Derived.Test.YtgphclgmmocdhaaGreatDoorQu36
namespace Go.Proofs.YtgphclgmmocdhaaGreatDoor
section
open Go.RowKit Go.Shelf
mutual
theorem elN_va:∀ (n:Nd) (k:Nat) (p:Int),okN n->∀ e ∈ elN k p n,∀ a ∈ e.ats,isVal a.2=true
 | .mk nm ats ks,k,p,h,e,he=>by
  unfold okN at h
  rw [elN] at he
  rcases List.mem_cons.1 he with rfl | he
  ·exact fun a ha=>(h.2.1 a ha).2
  ·exact elL_va ks _ _ h.2.2 e he
theorem elL_va:∀ (l:List Nd) (k:Nat) (p:Int),okL l->∀ e ∈ elL k p l,∀ a ∈ e.ats,isVal a.2=true
 | [],_,_,_,e,he=>by simp [elL] at he
 | n :: l,k,p,h,e,he=>by
  unfold okL at h
  rw [elL] at he
  rcases List.mem_append.1 he with he | he
  ·exact elN_va n _ _ h.1 e he
  ·exact elL_va l _ _ h.2 e he
end
theorem FitD.new (n:Nd) (hc:(ckN n 1 0).1=0):FitD (newD n):=fun j e he=>by
 have hk:=ckN_ok n 1 0 hc
 unfold newD extE at he
 split at he
 ·have hm:=List.mem_of_getElem? he
  refine ⟨?_,fun a ha=>?_⟩
  ·obtain ⟨c,r,h1, -⟩:=isNm_head (elN_nm n 0 (-1) hk e hm)
   rw [h1]
   simp
  ·have h1:=elN_va n 0 (-1) hk e hm a ha
   unfold isVal at h1
   simp only [Bool.and_eq_true,decide_eq_true_eq] at h1
   omega
 ·cases he
theorem ba_cat (a b:Bs):(⟨a.toArray⟩:ByteArray)++(⟨b.toArray⟩:ByteArray)=⟨(a++b).toArray⟩:=by
 apply ByteArray.ext
 simp
end
section
open Go.RowKit Go.Shelf
def VaOk (M:Dm):Prop:=∀ i e,M i=some e->e.name≠[]/\∀ a ∈ e.ats,a.2.length<=200
theorem VaOk.fit {M:Dm} (h:VaOk M):FitD M:=fun i e he=>⟨(h i e he).1,fun a ha=>Nat.le_trans ((h i e he).2 a ha) (by omega)⟩
theorem VaOk.sz {M:Dm} (h:VaOk M):SzD M:=fun i e he=>(h i e he).2
theorem VaOk.new (n:Nd) (hc:(ckN n 1 0).1=0):VaOk (newD n):=fun j e he=>by
 have hk:=ckN_ok n 1 0 hc
 have hf:=FitD.new n hc j e he
 refine ⟨hf.1,fun a ha=>?_⟩
 unfold newD extE at he
 split at he
 ·have h1:=elN_va n 0 (-1) hk e (List.mem_of_getElem? he) a ha
  unfold isVal at h1
  simp only [Bool.and_eq_true,decide_eq_true_eq] at h1
  exact h1.1
 ·cases he
section
variable {E:Nat->Addr} {B:Nat} {tg:Tags} {W:World} {DB MB:Nat} {p:Int->Option Nat} {M:Dm} {nx c:Nat} {r:Int->Nat}
theorem En.of (hd:DocS B tg W DB MB p M nx c r) (hN:NE E W) (hv:VaOk M):En E B tg W DB MB p M nx c r [] W.heap.size (.slice none 0 0):=⟨hd,hN,hv.fit,hv.sz,fun x hx=>(by cases hx),World.ownsRow_nil _ _ _ _⟩
end
def ndBx:Nd:=.mk [98,111,120] [([102,105,108,108],[97]),([119],[50]),([104],[50])] []
theorem come_bx:comeM (newD ndBx) [] 101 0 [-1] .one (0,[])=.ok (1,[⟨0,sqL 2,[97],[119,105,110,100],0⟩]):=by kernel_rfl
theorem pieces_bx:piecesM (newD ndBx) []=.ok [⟨0,sqL 2,[97],[119,105,110,100],0⟩]:=by
 unfold piecesM
 rw [come_bx]
 kernel_rfl
end
section
open Go.RowKit Go.Shelf
set_option maxHeartbeats 8000000
set_option maxRecDepth 20000
abbrev oBx:Obj:=.cells #[.string ⟨#[102,105,108,108]⟩,.string ⟨#[97]⟩,.string ⟨#[119]⟩,.string ⟨#[50]⟩,.string ⟨#[104]⟩,.string ⟨#[50]⟩] 49
theorem nd_bx (W:World):NdC (W.alloc oBx) (.string ⟨#[98,111,120]⟩) (.slice (some ⟨W.heap.size,0,none⟩) 3 3) (.slice none 0 0) ndBx:=by
 unfold ndBx NdC
 have n0:=mbox W #[.string ⟨#[102,105,108,108]⟩,.string ⟨#[97]⟩,.string ⟨#[119]⟩,.string ⟨#[50]⟩,.string ⟨#[104]⟩,.string ⟨#[50]⟩] 49
 refine ⟨rfl,by rw [maxLen_eq];decide,⟨some ⟨W.heap.size,0,none⟩,3,rfl,Nat.le_refl _,by rw [maxLen_eq];decide,(fun h=>by cases h),fun i x h=>?_⟩,none,0,rfl,Nat.le_refl _,Nat.zero_le _,fun _=>rfl,?_⟩
 ·match i,h with
  | 0,h=>cases h;exact ⟨_,_,rfl,bcell n0 0 _ rfl,bcell n0 1 _ rfl,by rw [maxLen_eq];decide,by rw [maxLen_eq];decide⟩
  | 1,h=>cases h;exact ⟨_,_,rfl,bcell n0 2 _ rfl,bcell n0 3 _ rfl,by rw [maxLen_eq];decide,by rw [maxLen_eq];decide⟩
  | 2,h=>cases h;exact ⟨_,_,rfl,bcell n0 4 _ rfl,bcell n0 5 _ rfl,by rw [maxLen_eq];decide,by rw [maxLen_eq];decide⟩
 ·unfold KdsAt
  trivial
theorem pcs_one {qs:List P5S} {x:Pc} (h:qs.map P5S.pc=[x]):∃ o cap,qs=[⟨x.nd,o,cap,x.pts,x.fill,x.rule,x.lv⟩]:=by
 match qs,h with
 | [y],h=>cases h;exact ⟨y.o,y.cap,rfl⟩
theorem scened_ce {E:Nat->Addr} (W:World) (hN:NE E W) (hD:CE E W) :
  Calls Tryz.prog 8 #[] W fun e w'=>e=.returned (.bool true)/\Below W.heap.size W w':=by
 have b0:=mal W oBx
 have NW:=New_S E ndBx _ _ _ _ (hD.below b0) (nd_bx W) (by decide) (by decide)
 have HN:Hid (NE E W):=hN
 clear hD hN
 go_enter Tryz.func8,Tryz.ntmps8
 go_upto_region 4 with (go_at_call 10;refine NW.mono ?_;rintro e w1 ⟨b1,DB,MB,tg,p,rfl,d1⟩)
 have B1:=mbel b0 b1
 have PC:=Pieces_any (En.of d1 (HN.out.below B1) (VaOk.new ndBx (by decide)))
 rw [pieces_bx] at PC
 clear NW d1
 have PC':Calls Tryz.prog 13 #[.pointer (some ⟨DB,0,none⟩),.slice none 0 0] w1 fun e w'=>∃ g cap o c,e=.returned (.tuple #[.slice (some ⟨g,0,none⟩) 1 cap,.nilIface])/\w'.cell? ⟨g,1,none⟩=some (.slice o 4 c)/\w'.cell? ⟨g,2,none⟩=some (.string ⟨#[97]⟩)/\w'.cell? ⟨g,3,none⟩=some (.string ⟨#[119,105,110,100]⟩)/\1<=cap/\PtsAt w' o (sqL 2)/\Below w1.heap.size w1 w':=PC.mono fun e w' ⟨⟨qs,v,h1,h2,h3,h4,h5⟩,h6⟩=>by
  obtain ⟨o,c,rfl⟩:=pcs_one h1
  obtain ⟨ov,cap,hv,hc, -, -,hg⟩:=row_slice h3
  obtain ⟨g,hg1,c1⟩:=row_get h3 1 _ rfl
  have hov:=hg g hg1
  obtain ⟨g2,hg2,c2⟩:=row_get h3 2 _ rfl
  obtain ⟨g3,hg3,c3⟩:=row_get h3 3 _ rfl
  rw [hg1] at hg2 hg3
  cases hg2
  cases hg3
  subst hov
  have hp:=h4 _ (List.mem_singleton.2 rfl)
  obtain ⟨o',c',he,hpt⟩:=OwnP.at_ hp (fun a ha=>chkP_pi (h5 _ (List.mem_singleton.2 rfl) a ha))
  cases he
  exact ⟨g,cap,o,c,by rw [h2,hv];rfl,c1,c2,c3,hc,hpt,h6⟩
 clear PC
 go_upto_region 5 with (go_at_call 13;refine PC'.mono ?_;rintro e w2 ⟨g,cap,o,c,rfl,k1,k2,k3,hcap,hpt,b2⟩)
 have B2:=mbel B1 b2
 have SQ:=square_any 2 w2.drew (by omega) (by omega)
 have KP:∀ U,Below w2.heap.size w2 U->U.cell? ⟨g,1,none⟩=some (.slice o 4 c)/\U.cell? ⟨g,2,none⟩=some (.string ⟨#[97]⟩)/\U.cell? ⟨g,3,none⟩=some (.string ⟨#[119,105,110,100]⟩):=fun U hU=>⟨(hU.cell (cell_lt k1)).trans k1,(hU.cell (cell_lt k2)).trans k2,(hU.cell (cell_lt k3)).trans k3⟩
 have hcz:(1:Int)<=(cap:Int):=by omega
 go_region_held3 (fun w'=>w'.cell? ⟨g,1,none⟩=some (.slice o 4 c)/\w'.cell? ⟨g,2,none⟩=some (.string ⟨#[97]⟩)/\w'.cell? ⟨g,3,none⟩=some (.string ⟨#[119,105,110,100]⟩)) (first | exact ⟨k1,k2,k3⟩ | exact KP _ bb3 | exact KP _ bb4) (first
  | (go_at_call 31;refine SQ.mono ?_;rintro e w3 ⟨o3,c3,rfl,hp3,b3⟩;have bb3:Below w2.heap.size w2 w3:=⟨b3.os,b3.tape,b3.output,b3.size,b3.block⟩)
  | (go_at_call 14;refine (samePoints_same (sqL 2) o _ c _ w3 (by decide) (hpt.below bb3 Nat.le.refl) hp3).mono ?_;rintro e w4 ⟨rfl,b4⟩;have bb4:=mbel bb3 b4))
 go_wp2_with fail
 go_ret
 exact ⟨rfl,mbel B2 bb4⟩
end
section
open Go.RowKit Go.Shelf
def PRow (w:World) (g:Nat) (qs:List P5S):Prop:=∀ i x,qs[i]? = some x->w.cell? ⟨g,i * 5,none⟩=some (.int .i64 x.nd)/\w.cell? ⟨g,i * 5+1,none⟩=some (ptsV x)/\w.cell? ⟨g,i * 5+2,none⟩=some (bV x.fill)/\w.cell? ⟨g,i * 5+3,none⟩=some (bV x.rule)/\w.cell? ⟨g,i * 5+4,none⟩=some (.int .i64 x.lv)
theorem row_P {w:World} {base:Nat} {v:Value} {qs:List P5S} (h:w.ownsRow base 45 5 v qs.length (cellsS qs)):∃ o cap,v=.slice o qs.length cap/\qs.length<=cap/\(0<qs.length->∃ g,o=some ⟨g,0,none⟩/\PRow w g qs):=by
 obtain ⟨o,cap,hv,hc, -, -,hg⟩:=row_slice h
 refine ⟨o,cap,hv,hc,fun hp=>?_⟩
 have AT:∀ i x,qs[i]? = some x->∀ c,c<5->(cellsS qs)[i * 5+c]? = ([.int .i64 x.nd,ptsV x,bV x.fill,bV x.rule,.int .i64 x.lv]:List Value)[c]? := fun i x hx c hc=>by
  obtain ⟨hi,rfl⟩:=List.getElem?_eq_some_iff.1 hx
  exact cellsS_get qs i c hi hc
 obtain ⟨x0,hx0⟩:∃ x,qs[0]? = some x:=⟨_,List.getElem?_eq_getElem hp⟩
 obtain ⟨g,hg1, -⟩:=row_get h _ _ (AT 0 x0 hx0 0 (by omega))
 refine ⟨g,hg g hg1,fun i x hx=>?_⟩
 have GET:∀ c u,c<5->([.int .i64 x.nd,ptsV x,bV x.fill,bV x.rule,.int .i64 x.lv]:List Value)[c]? = some u->w.cell? ⟨g,i * 5+c,none⟩=some u:=fun c u hc hu=>by
  obtain ⟨g',hg',h2⟩:=row_get h (i * 5+c) u ((AT i x hx c hc).trans hu)
  rw [hg1] at hg'
  cases hg'
  exact h2
 exact ⟨GET 0 _ (by omega) rfl,GET 1 _ (by omega) rfl,GET 2 _ (by omega) rfl,GET 3 _ (by omega) rfl,GET 4 _ (by omega) rfl⟩
theorem pc_same {x y:P5S} (h:x.pc=y.pc):y.nd=x.nd/\y.pts=x.pts/\y.fill=x.fill/\y.rule=x.rule/\y.lv=x.lv:=by
 unfold P5S.pc at h
 injection h with h1 h2 h3 h4 h5
 exact ⟨h1.symm,h2.symm,h3.symm,h4.symm,h5.symm⟩
structure Pcs (W:World) (l:List Pc) (v:Value) (w:World) (qs:List P5S):Prop where
 pc:qs.map P5S.pc=l
 row:w.ownsRow W.heap.size 45 5 v qs.length (cellsS qs)
 pts:∀ x ∈ qs,OwnP w W.heap.size (ptsV x) x.pts
 rt:∀ x ∈ qs,∀ a ∈ x.pts,chkP a=0
theorem Pcs.below {W:World} {l:List Pc} {v:Value} {w w':World} {qs:List P5S} (h:Pcs W l v w qs) (hb:Below w.heap.size w w'):Pcs W l v w' qs:=⟨h.pc,own_bel h.row hb,fun x hx=>(h.pts x hx).keep hb,h.rt⟩
theorem Pcs.at_ {W:World} {l:List Pc} {v:Value} {w:World} {qs:List P5S} (h:Pcs W l v w qs) {x:P5S} (hx:x ∈ qs):PtsAt w x.o x.pts:=by
 obtain ⟨o,c,h1,h2⟩:=OwnP.at_ (h.pts x hx) (fun a ha=>chkP_pi (h.rt x hx a ha))
 cases h1
 exact h2
end
section
open Go.RowKit Go.Shelf
set_option maxHeartbeats 8000000
set_option maxRecDepth 20000
theorem opO_some {op:Op4} {F:Rat->Rat->Rat} (g:Good op F) {x y z:Fr} (h:opO op x y=some z):x.ok/\y.ok/\op x.n x.d y.n y.d=⟨z.n,z.d,0⟩:=by
 unfold opO at h
 split at h
 ·next hc=>
  cases h
  have e:op x.n x.d y.n y.d=⟨(op x.n x.d y.n y.d).n,(op x.n x.d y.n y.d).d,0⟩:=by rw [<- hc]
  exact ⟨(g.val x y _ _ e).1,(g.val x y _ _ e).2.1,e⟩
 ·cases h
theorem dot_some {a b c d e t:Fr} (h:dotO a b c d e=some t) (W:World) :
  Calls Tryz.prog 90 #[.agg #[.int .i64 a.n,.int .i64 a.d],.agg #[.int .i64 b.n,.int .i64 b.d],.agg #[.int .i64 c.n,.int .i64 c.d],.agg #[.int .i64 d.n,.int .i64 d.d],.agg #[.int .i64 e.n,.int .i64 e.d]] W fun r w'=>r=.returned (.tuple #[.agg #[.int .i64 t.n,.int .i64 t.d],.bool true])/\Below W.heap.size W w':=by
 unfold dotO at h
 obtain ⟨x,h1,h⟩:=bind_iff.1 h
 obtain ⟨y,h2,h⟩:=bind_iff.1 h
 obtain ⟨s,h3,h4⟩:=bind_iff.1 h
 obtain ⟨a1,a2,a3⟩:=opO_some good_mul h1
 obtain ⟨b1,b2,b3⟩:=opO_some good_mul h2
 obtain ⟨c1,c2,c3⟩:=opO_some good_add h3
 obtain ⟨d1,d2,d3⟩:=opO_some good_add h4
 exact dot_oooo a b c d e x y s t W (fun V=>fd_ok FracDo_mul a1 a2 a3 V) (fun V=>fd_ok FracDo_mul b1 b2 b3 V) (fun V=>fd_ok FracDo_add c1 c2 c3 V) (fun V=>fd_ok FracDo_add d1 d2 d3 V)
theorem GoesTo_some {m:Mv} {p q:Pt} (h:goesO m p=some q) (W:World) :
  Calls Tryz.prog 51 #[mv m,pv p] W fun e w'=>e=.returned (.tuple #[.agg #[.int .i64 q.x.n,.int .i64 q.x.d,.int .i64 q.y.n,.int .i64 q.y.d],.bool true])/\Below W.heap.size W w':=by
 unfold goesO at h
 obtain ⟨x,h1,h⟩:=bind_iff.1 h
 obtain ⟨y,h2,h⟩:=bind_iff.1 h
 cases h
 exact goes_oo m p x y W (dot_some h1) (dot_some h2)
def CutG (q:Qt) (V:World) (b v:Value) (wx:World):Prop:=∃ BS,b=.pointer (some ⟨BS,0,none⟩)/\v=.bool true/\V.heap.size<=BS/\wx.heap[BS]? = some (.cells #[.int .i64 q.xn,.int .i64 q.xd,.int .i64 q.yn,.int .i64 q.yd] 121)/\Below V.heap.size V wx
theorem cutG_new {q:Qt} {V w1:World} (b:Below V.heap.size V w1):CutG q V (.pointer (some ⟨w1.heap.size,0,none⟩)) (.bool true) (w1.alloc (.cells #[.int .i64 q.xn,.int .i64 q.xd,.int .i64 q.yn,.int .i64 q.yd] 121)):=
 ⟨_,rfl,rfl,b.size,mbox w1 _ _,mbel b (mal w1 _)⟩
theorem cutG_old {q:Qt} {V w1:World} (b:Below (V.alloc (.cells #[.int .i64 0,.int .i64 0,.int .i64 0,.int .i64 0] 121)).heap.size (V.alloc (.cells #[.int .i64 0,.int .i64 0,.int .i64 0,.int .i64 0] 121)) w1) :
  CutG q V (.pointer (some ⟨V.heap.size,0,none⟩)) (.bool true) ((((w1.setCell ⟨V.heap.size,0,none⟩ (.int .i64 q.xn)).setCell ⟨V.heap.size,1,none⟩ (.int .i64 q.xd)).setCell ⟨V.heap.size,2,none⟩ (.int .i64 q.yn)).setCell ⟨V.heap.size,3,none⟩ (.int .i64 q.yd)):=by
 have K:=mbox V #[.int .i64 0,.int .i64 0,.int .i64 0,.int .i64 0] 121
 have K1:=(b.block _ (blk_lt K)).trans K
 have bb:=mbel (mal V (.cells #[.int .i64 0,.int .i64 0,.int .i64 0,.int .i64 0] 121)) b
 refine ⟨_,rfl,rfl,Nat.le_refl _,?_,(((bb.setCell Nat.le.refl _).setCell Nat.le.refl _).setCell Nat.le.refl _).setCell Nat.le.refl _⟩
 have s0:=heap_setCell_same w1 V.heap.size 0 _ _ (.int .i64 q.xn) K1
 have s1:=heap_setCell_same _ V.heap.size 1 _ _ (.int .i64 q.xd) s0
 have s2:=heap_setCell_same _ V.heap.size 2 _ _ (.int .i64 q.yn) s1
 have s3:=heap_setCell_same _ V.heap.size 3 _ _ (.int .i64 q.yd) s2
 simpa using s3
theorem OwnP.far1 {w:World} {base b:Nat} {v u:Value} {l:List Qt} (h:OwnP w base v l) (hb:b<base):OwnP (w.setCell ⟨b,1,none⟩ u) base v l:=by
 refine ⟨h.1,?_⟩
 rcases h.2 with h0 | ⟨g,cap,cur,h1,h2,h3,h4⟩
 ·exact .inl h0
 ·refine .inr ⟨g,cap,cur,h1,h2,?_,h4⟩
  rw [Below.heap_setCell _ _ _ g (by simp;omega)]
  exact h3
theorem Moved_any (m:Mv) (g:Qt->Qt) (l:List Qt) (o:Option Addr) (cap:Nat) (w:World) (hg:∀ a ∈ l,goesO m (ptQ a)=some (ptQ (g a))/\PI (g a)/\errP (g a)=0) (hl:l.length<=1000) (h:PtsAt w o l) :
  Calls Tryz.prog 17 #[.slice o l.length cap,mv m] w fun e W=>(∃ v,e=.returned (.tuple #[v,.agg #[.int .i64 0,.int .i64 (-1)]])/\OwnP W w.heap.size v (l.map g))/\Below w.heap.size w W:=by
 obtain ⟨i0,hi,hz0,hz1,hz2⟩:=info_parts infoPt
 go_enter Tryz.func17,Tryz.ntmps17
 go_upto_region 1 with fail
 obtain ⟨U,hU⟩:∃ U,(w.alloc (.cells #[.int .i64 m.a.n,.int .i64 m.a.d,.int .i64 m.b.n,.int .i64 m.b.d,.int .i64 m.c.n,.int .i64 m.c.d,.int .i64 m.d.n,.int .i64 m.d.d,.int .i64 m.e.n,.int .i64 m.e.d,.int .i64 m.f.n,.int .i64 m.f.d] 54)).alloc (.cells #[.int .i64 0,.int .i64 0] 57)=U:=⟨_,rfl⟩
 have kU:U.heap[w.heap.size]? = some (.cells #[.int .i64 m.a.n,.int .i64 m.a.d,.int .i64 m.b.n,.int .i64 m.b.d,.int .i64 m.c.n,.int .i64 m.c.d,.int .i64 m.d.n,.int .i64 m.d.d,.int .i64 m.e.n,.int .i64 m.e.d,.int .i64 m.f.n,.int .i64 m.f.d] 54)/\U.heap[w.heap.size+1]? = some (.cells #[.int .i64 0,.int .i64 0] 57)/\Below w.heap.size w U:=by
  subst hU
  exact ⟨al_old _ (al_new _ rfl),al_new _ (by simp),((Below.refl _ _).alloc Nat.le.refl _).alloc (by simp) _⟩
 obtain ⟨k0,k1,hbU⟩:=kU
 rw [hU]
 clear hU
 have HG:Hid _:=hg
 clear hg
 go_wp2_with fail
 go_loopw [6,7] (fun v y wr=>∃ k:Nat,k<=l.length/\y=.int .i64 k/\OwnP wr U.heap.size v ((l.take k).map g)/\Below U.heap.size U wr) (fun _ y _=>l.length - (intOf y).toNat)
 case atStart=>exact ⟨0,Nat.zero_le _,rfl,OwnP.nil _ _,Below.refl _ _⟩
 case round=>
  obtain ⟨k,hk,rfl,hown,hb⟩:=hrel
  have hpiT:∀ a ∈ (l.take k).map g,PI a:=fun a ha=>by
   obtain ⟨b,hb',rfl⟩:=List.mem_map.1 ha
   exact (HG.out b (List.mem_of_mem_take hb')).2.1
  obtain ⟨ov,cv,rfl, -⟩:=hown.at_ hpiT
  have hlen:((l.take k).map g).length=k:=by rw [List.length_map,List.length_take];omega
  rw [hlen] at hown ⊢
  have HLEN:Hid (((l.take k).map g).length=k):=hlen
  clear hpiT hlen
  by_cases hlt:k<l.length
  ·have hlt':(k:Int)<(l.length:Int):=by omega
   obtain ⟨a,ha⟩:∃ a,l[k]? = some a:=⟨_,List.getElem?_eq_getElem hlt⟩
   have hmem:=List.mem_of_getElem? ha
   obtain ⟨b,off,ho,hp⟩:=(h.below (bel_more hbU hb) Nat.le.refl) k a ha
   subst ho
   obtain ⟨c0,c1,c2,c3,hpi⟩:=hp
   have HL:Hid (l[k]? = some a):=ha
   obtain ⟨hgo,hpg,heg⟩:=HG.out a hmem
   have GT:∀ V,Calls Tryz.prog 51 #[mv m,.agg #[.int .i64 a.xn,.int .i64 a.xd,.int .i64 a.yn,.int .i64 a.yd]] V fun e w'=>e=.returned (.tuple #[.agg #[.int .i64 (g a).xn,.int .i64 (g a).xd,.int .i64 (g a).yn,.int .i64 (g a).yd],.bool true])/\Below V.heap.size V w':=fun V=>GoesTo_some hgo V
   generalize hga:g a=q at *
   have HGA:Hid (g a=q):=hga
   clear hga ha hgo
   have kr:=blk_keep hb k0
   have m0:=bcellQ kr 0 _ rfl
   have m1:=bcellQ kr 1 _ rfl
   have m2:=bcellQ kr 2 _ rfl
   have m3:=bcellQ kr 3 _ rfl
   have m4:=bcellQ kr 4 _ rfl
   have m5:=bcellQ kr 5 _ rfl
   have m6:=bcellQ kr 6 _ rfl
   have m7:=bcellQ kr 7 _ rfl
   have m8:=bcellQ kr 8 _ rfl
   have m9:=bcellQ kr 9 _ rfl
   have m10:=bcellQ kr 10 _ rfl
   have m11:=bcellQ kr 11 _ rfl
   unfold mv at GT
   go_upto_region 5 with fail
   go_cut [8,9] from 10 to 37 (fun p v wx=>CutG q wr p v wx)
   case first=>
    have ba:=mal wr (.cells #[.int .i64 0,.int .i64 0,.int .i64 0,.int .i64 0] 121)
    have e0:=(ba.cell (cell_lt m0)).trans m0
    have e1:=(ba.cell (cell_lt m1)).trans m1
    have e2:=(ba.cell (cell_lt m2)).trans m2
    have e3:=(ba.cell (cell_lt m3)).trans m3
    have e4:=(ba.cell (cell_lt m4)).trans m4
    have e5:=(ba.cell (cell_lt m5)).trans m5
    have e6:=(ba.cell (cell_lt m6)).trans m6
    have e7:=(ba.cell (cell_lt m7)).trans m7
    have e8:=(ba.cell (cell_lt m8)).trans m8
    have e9:=(ba.cell (cell_lt m9)).trans m9
    have e10:=(ba.cell (cell_lt m10)).trans m10
    have e11:=(ba.cell (cell_lt m11)).trans m11
    have d0:=(ba.cell (cell_lt c0)).trans c0
    have d1:=(ba.cell (cell_lt c1)).trans c1
    have d2:=(ba.cell (cell_lt c2)).trans c2
    have d3:=(ba.cell (cell_lt c3)).trans c3
    have KK:∀ w1,Below (wr.alloc (.cells #[.int .i64 0,.int .i64 0,.int .i64 0,.int .i64 0] 121)).drew.heap.size (wr.alloc (.cells #[.int .i64 0,.int .i64 0,.int .i64 0,.int .i64 0] 121)).drew w1->w1.heap[wr.heap.size]? = some (.cells #[.int .i64 0,.int .i64 0,.int .i64 0,.int .i64 0] 121):=fun w1 b1=>by
     have K:=mbox wr #[.int .i64 0,.int .i64 0,.int .i64 0,.int .i64 0] 121
     exact (b1.block wr.heap.size (blk_lt K)).trans K
    have G1:=GT wr.drew
    have G2:=GT (wr.alloc (.cells #[.int .i64 0,.int .i64 0,.int .i64 0,.int .i64 0] 121)).drew
    clear GT ba kr hown
    go_region_with (first | (go_at_call 51;refine G1.mono ?_;rintro e w1 ⟨rfl,b1⟩) | (go_at_call 51;refine G2.mono ?_;rintro e w1 ⟨rfl,b1⟩;have KB:=KK w1 b1;have u0:=bcellQ KB 0 _ rfl;have u1:=bcellQ KB 1 _ rfl;have u2:=bcellQ KB 2 _ rfl;have u3:=bcellQ KB 3 _ rfl;have f0:=bfrozQ KB 0;have f1:=bfrozQ KB 1;have f2:=bfrozQ KB 2;have f3:=bfrozQ KB 3))
    all_goals go_wp2_with fail
    all_goals go_meet
    all_goals first | (have hu:=u0;exact cutG_old ((below_drewN (Below.refl _ _) 1).trans b1)) | exact cutG_new ((below_drewN (Below.refl _ _) 1).trans b1)
   case rest=>
    obtain ⟨BS,rfl,rfl,hBS,KB,b1⟩:=hcut
    clear c0 c1 c2 c3 m0 m1 m2 m3 m4 m5 m6 m7 m8 m9 m10 m11 GT kr
    have f0:=bcellQ KB 0 _ rfl
    have f1:=bcellQ KB 1 _ rfl
    have f2:=bcellQ KB 2 _ rfl
    have f3:=bcellQ KB 3 _ rfl
    have PE:=PointError_any q wc hpg
    rw [heg] at PE
    unfold qtV at PE
    clear heg
    go_upto_region 8 with (go_at_call 52;refine PE.mono ?_;rintro e w4 ⟨rfl,b2⟩)
    clear PE f0 f1 f2 f3
    have KB:=blk_keep b2 KB
    have f0:=bcellQ KB 0 _ rfl
    have f1:=bcellQ KB 1 _ rfl
    have f2:=bcellQ KB 2 _ rfl
    have f3:=bcellQ KB 3 _ rfl
    have b12:=bel_more b1 b2
    have b8:=bel_more hb b12
    have hz8:=b8.size
    have hown4:w4.ownsRow U.heap.size 121 4 (.slice ov k cv) k (cellsP ((l.take k).map g)):=by
     have h:=hown.keep b12
     unfold OwnP at h
     rw [HLEN.out] at h
     exact h
    have hnb:=World.alloc_heap_new w4 (.cells #[.int .i64 q.xn,.int .i64 q.xd,.int .i64 q.yn,.int .i64 q.yd] 121)
    have owj':(w4.alloc (.cells #[.int .i64 q.xn,.int .i64 q.xd,.int .i64 q.yn,.int .i64 q.yd] 121)).ownsRow U.heap.size 121 4 (.slice ov k cv) k (cellsP ((l.take k).map g)):=World.ownsRow.alloc hown4 _
    have HT:Hid ((l.take (k+1)).map g=(l.take k).map g++[q]):=by
     have ht:l.take (k+1)=l.take k++[a]:=by rw [List.take_add_one,HL.out];rfl
     show (l.take (k+1)).map g=(l.take k).map g++[q]
     rw [ht,List.map_append,List.map_singleton,HGA.out]
    generalize (l.take k).map g=R at *
    clear hown hown4
    go_wp2_with (at_builtin;refine wpList_append_own _ rfl _ _ 41 rfl (U.heap.size) 121 i0 (.agg #[.int .i64 0,.int .i64 0,.int .i64 0,.int .i64 0]) 4 32 Tryz.underlying41 hi hz0 hz1 hz2 rfl (by decide) _ _ _ rfl owj' _ _ _ (cellsP [q]) rfl (cellsP_len [q]) (World.news_of_block hnb) (cellsP_one _) (by simp only [maxLen];omega) (by omega) (by simp;omega) ?_;intro v12 w12 ow12 gr12 _)
    go_roundw
    case rel=>exact ⟨k+1,by omega,by go_num,by rw [HT.out];rw [<- HLEN.out] at ow12;exact OwnP.app (m:=[q]) ow12 rfl,(b8.alloc hz8 _).grown gr12 (by simp;omega) (own_ge' owj')⟩
    case measure=>simp [intOf];omega
  ·obtain rfl:k=l.length:=by omega
   have hge:¬ (l.length:Int)<(l.length:Int):=by omega
   have k24:=blk_keep hb k1
   have hlt4:=(Array.getElem?_eq_some_iff.1 k1).1
   go_upto_region 9 with fail
   have FI:=Fine_any wr
   go_wp2_with (go_at_call 53;refine FI.mono ?_;rintro e w4 ⟨rfl,b4⟩;have k4:=blk_keep b4 k24;have q0:=bcellQ k4 0 _ rfl;have q1:=bcellQ k4 1 _ rfl;have f0:=bfrozQ k4 0;have f1:=bfrozQ k4 1)
   have KS:=heap_setCell_same _ _ 1 _ _ (.int .i64 (-1)) (heap_setCell_same w4 (w.heap.size+1) 0 _ _ (.int .i64 0) k4)
   have d0:=bcellQ KS 0 _ rfl
   have d1:=bcellQ KS 1 _ rfl
   have hw:w.heap.size<=U.heap.size:=hbU.size
   have hown4:=hown.keep b4
   rw [List.take_length] at hown4
   refine bodyPost_ret (v:=.tuple #[.slice ov l.length cv,.agg #[.int .i64 0,.int .i64 (-1)]]) (by simp [results,Tryz.results17,go_sem,d0,d1]) rfl ⟨⟨_,rfl,?_⟩,((bel_more (bel_more hbU hb) b4).setCell (by simp) _).setCell (by simp) _⟩
   exact ((hown4.far (b:=w.heap.size+1) (u:=.int .i64 0) hlt4).far1 (u:=.int .i64 (-1)) hlt4).low hw
end
end Go.Proofs.YtgphclgmmocdhaaGreatDoor

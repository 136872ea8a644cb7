/-
  Parts of the proof.
-/
import Derived.Test.YtgphclgmmocdhaaGreatDoorQu29
import Derived.Test.YtgphclgmmocdhaaGreatDoorQu27
import Derived.Test.YtgphclgmmocdhaaGreatDoorQu19
import Derived.Test.YtgphclgmmocdhaaGreatDoorQu24
namespace Go.Proofs.YtgphclgmmocdhaaGreatDoor
section
open Go.RowKit
theorem cellsF_get:∀ (M:List FlM) (i:Nat) (x:FlM),M[i]? = some x->∀ q u,x.cells[q]? = some u->(cellsF M)[i * 4+q]? = some u
 | [],i,x,h,_,_,_=>by simp at h
 | y :: r,0,x,h,q,u,hu=>by
  simp at h
  subst h
  have hq:q<4:=by
   rcases Nat.lt_or_ge q 4 with h | h
   ·exact h
   ·rw [List.getElem?_eq_none (by simp [FlM.cells];omega)] at hu;cases hu
  rw [cellsF,Nat.zero_mul,Nat.zero_add,List.getElem?_append_left (by simp [FlM.cells];omega)]
  exact hu
 | y :: r,i+1,x,h,q,u,hu=>by
  have:=cellsF_get r i x (by simpa using h) q u hu
  rw [cellsF,List.getElem?_append_right (by simp [FlM.cells];omega)]
  rw [show (i+1) * 4+q - y.cells.length=i * 4+q from by simp [FlM.cells];omega]
  exact this
def RowF (w:World) (g:Nat) (M:List FlM):Prop:=∀ i x,M[i]? = some x->w.cell? ⟨g,i * 4,none⟩=some (.string ⟨x.nm.toArray⟩)/\w.cell? ⟨g,i * 4+1,none⟩=some x.c/\w.cell? ⟨g,i * 4+2,none⟩=some (.int .i64 x.parent)/\w.cell? ⟨g,i * 4+3,none⟩=some (.int .i64 x.deep)
theorem row_of {w:World} {B:Nat} {v:Value} {M:List FlM} (h:w.ownsRow B 35 4 v M.length (cellsF M)) (hp:0<M.length):∃ g cap,v=.slice (some ⟨g,0,none⟩) M.length cap/\B<=g/\M.length<=cap/\RowF w g M:=by
 obtain ⟨h1,h2⟩:=h
 rcases h2 with ⟨_,h2⟩ | ⟨g,cap,cur,h3,h4,h5,h6,h7,h8,h9⟩
 ·omega
 ·have get:∀ j u,(cellsF M)[j]? = some u->w.cell? ⟨g,j,none⟩=some u:=fun j u hj=>by
   rw [<- h9,List.getElem?_take] at hj
   split at hj
   ·unfold World.cell?
    rw [h5]
    simpa using hj
   ·cases hj
  refine ⟨g,cap,h3,h4,by first | exact h6 | omega,fun i x hx=>⟨?_,?_,?_,?_⟩⟩
  ·exact get _ _ (cellsF_get M i x hx 0 _ rfl)
  ·exact get _ _ (cellsF_get M i x hx 1 _ rfl)
  ·exact get _ _ (cellsF_get M i x hx 2 _ rfl)
  ·exact get _ _ (cellsF_get M i x hx 3 _ rfl)
theorem RowF.below {w w':World} {g:Nat} {M:List FlM} (h:RowF w g M) (hb:Below w.heap.size w w'):RowF w' g M:=fun i x hx=>by
 obtain ⟨h1,h2,h3,h4⟩:=h i x hx
 exact ⟨(hb.cell (cell_lt3 h1)).trans h1,(hb.cell (cell_lt3 h2)).trans h2,(hb.cell (cell_lt3 h3)).trans h3,(hb.cell (cell_lt3 h4)).trans h4⟩
theorem FlRs.get {W0:World}:∀ {a:List FlM} {f:List Fl} {i:Nat} {x:FlM},FlRs W0 a f->a[i]? = some x->∃ y,f[i]? = some y/\FlR W0 x y
 | [],_,_,_,_,h=>by simp at h
 | _ :: r,[],_,_,h,_=>h.elim
 | z :: r,y :: q,0,x,h,hx=>by simp at hx;subst hx;exact ⟨y,rfl,h.1⟩
 | z :: r,y :: q,i+1,x,h,hx=>by
  obtain ⟨y',h1,h2⟩:=FlRs.get (a:=r) (f:=q) (i:=i) h.2 (by simpa using hx)
  exact ⟨y',by simpa using h1,h2⟩
end
section
open Go.RowKit
set_option maxHeartbeats 8000000
set_option maxRecDepth 20000
mutual
def sh:Nat->Nd->Prop
 | d,.mk _ _ ks=>d<=15/\shL (d+1) ks
def shL:Nat->List Nd->Prop
 | _,[]=>True
 | d,k :: l=>sh d k/\shL d l
end
theorem shL_mem:∀ {l:List Nd} {d:Nat} {k:Nd},shL d l->k ∈ l->sh d k
 | [],_,_,_,h=>by simp at h
 | a :: l,d,k,h,hk=>by
  unfold shL at h
  rcases List.mem_cons.1 hk with rfl | hk
  ·exact h.1
  ·exact shL_mem h.2 hk
theorem shL_of:∀ {l:List Nd} {d:Nat},(∀ k ∈ l,sh d k)->shL d l
 | [],_,_=>by unfold shL;trivial
 | a :: l,d,h=>by
  unfold shL
  exact ⟨h a (by simp),shL_of (fun k hk=>h k (by simp [hk]))⟩
theorem flL_le (k:Nat) (p:Int) (d:Nat) (ks:List Nd) (i:Nat):(flL k p d (ks.take i)).length<=(flL k p d ks).length:=by
 have e:=List.take_append_drop i ks
 have:=flL_append k p d (ks.take i) (ks.drop i)
 rw [e] at this
 rw [this,List.length_append]
 omega
def Big (k:Nat) (p:Int) (d:Nat) (n:Nd):Prop:=150<k+(flN k p d n).length\/¬ sh d n
theorem big_kid {k i j:Nat} {p:Int} {d:Nat} {nm:Bs} {ats:List (Bs × Bs)} {ks:List Nd} {kid:Nd} (hx:ks[i]? = some kid) (hj:j=k+1+(flL (k+1) k (d+1) (ks.take i)).length) (h:150<j+(flN j k (d+1) kid).length):Big k p d (.mk nm ats ks):=by
 refine .inl ?_
 have h1:=flL_le (k+1) k (d+1) ks (i+1)
 rw [flL_more hx,List.length_append,<- hj] at h1
 rw [flN,List.length_cons]
 omega
theorem big_deep {k i:Nat} {p:Int} {d:Nat} {nm:Bs} {ats:List (Bs × Bs)} {ks:List Nd} {kid:Nd} (hx:ks[i]? = some kid) (h:¬ sh (d+1) kid):Big k p d (.mk nm ats ks):=by
 refine .inr fun hs=>h ?_
 unfold sh at hs
 exact shL_mem hs.2 (List.mem_of_getElem? hx)
def FlC2 (W0:World) (n:Nd):Prop:=∀ (c0 c1 c2:Value) (L:List FlM) (v:Value) (parent:Int) (deep:Nat) (W:World),NdC W0 c0 c1 c2 n->Below W0.heap.size W0 W->W.ownsRow W0.heap.size 35 4 v L.length (cellsF L)->L.length<=151->deep<=16->
 Calls Tryz.prog 32 #[v,.agg #[c0,c1,c2],.int .i64 parent,.int .i64 deep] W fun e w'=>∃ v' m cs,e=.returned v'/\w'.ownsRow W0.heap.size 35 4 v' m cs/\m<=151/\FK W0.heap.size W w'/\
  ((150<m/\Big L.length parent deep n)\/∃ M,m=(L++M).length/\cs=cellsF (L++M)/\FlRs W0 M (flN L.length parent deep n)/\sh deep n)
theorem flats_big (W0:World):∀ n,FlC2 W0 n:=by
 refine Nd.ind fun nm ats ks ih=>?_
 intro c0 c1 c2 L v parent deep W hn hb hown hL hd
 have hn':=hn
 unfold NdC at hn'
 obtain ⟨rfl,hl,hats,ok,capk,rfl,hkc,hkm,hk0,hks⟩:=hn'
 obtain ⟨o1,cap1,rfl, -⟩:=hats
 obtain ⟨ov,capv,rfl⟩:=own_slice hown
 obtain ⟨i0,hi,hz0,hz1,hz2⟩:=info_parts flatInfo
 have hB:=hb.size
 have hx0:=mbox W #[.string ⟨nm.toArray⟩,.slice o1 ats.length cap1,.slice ok ks.length capk] 25
 have k0:=FK.al (B:=W0.heap.size) W (.cells #[.string ⟨nm.toArray⟩,.slice o1 ats.length cap1,.slice ok ks.length capk] 25) hB
 have hown1:=World.ownsRow.alloc hown (.cells #[.string ⟨nm.toArray⟩,.slice o1 ats.length cap1,.slice ok ks.length capk] 25)
 have n0:=bcell hx0 0 (.string ⟨nm.toArray⟩) rfl
 have n1:=bcell hx0 1 (.slice o1 ats.length cap1) rfl
 have hL':(L.length:Int)<=151:=by omega
 have hd':(deep:Int)<=16:=by omega
 have z0:=k0.low.size
 unfold strV
 by_cases hlg:150<L.length
 ·have hlg':150<(L.length:Int):=by omega
  go_enter Tryz.func32,Tryz.ntmps32
  go_wp2_with (at_make;refine wpList_make_full _ rfl _ _ 27 rfl W0.heap.size 35 i0 _ 4 Tryz.underlying27 hi hz0 hz1 _ _ 151 151 151 rfl rfl rfl rfl (by rw [hz2];decide) (by decide) (by omega) ?_;intro w1 hown2 hgrow)
  go_ret
  simp only [World.size_alloc] at hown2
  exact ⟨_,151,_,rfl,hown2,by decide,k0.trans (FK.grown0 hgrow (by omega)),.inl ⟨by decide,.inl (by omega)⟩⟩
 have hlg':(L.length:Int)<=150:=by omega
 by_cases hdp:15<deep
 ·have hdp':15<(deep:Int):=by omega
  go_enter Tryz.func32,Tryz.ntmps32
  go_wp2_with (at_make;refine wpList_make_full _ rfl _ _ 27 rfl W0.heap.size 35 i0 _ 4 Tryz.underlying27 hi hz0 hz1 _ _ 151 151 151 rfl rfl rfl rfl (by rw [hz2];decide) (by decide) (by omega) ?_;intro w1 hown2 hgrow)
  go_ret
  simp only [World.size_alloc] at hown2
  exact ⟨_,151,_,rfl,hown2,by decide,k0.trans (FK.grown0 hgrow (by omega)),.inl ⟨by decide,.inr (fun h=>by unfold sh at h;omega)⟩⟩
 ·have hdp':(deep:Int)<=15:=by omega
  have hkm':(ks.length:Int)<=9223372036854775807:=by rw [maxLen_eq] at hkm;omega
  have HKS:Hid (KdsAt W0 ok 0 ks):=hks
  have IH:Hid (∀ k ∈ ks,FlC2 W0 k):=ih
  have HN:Hid (NdC W0 (strV nm) (.slice o1 ats.length cap1) (.slice ok ks.length capk) (.mk nm ats ks)):=hn
  clear hks ih hn hown
  go_enter Tryz.func32,Tryz.ntmps32
  go_upto_region 4 with fail
  obtain ⟨V,hV⟩:∃ V,W.alloc (.cells #[.string ⟨nm.toArray⟩,.slice o1 ats.length cap1,.slice ok ks.length capk] 25)=V:=⟨_,rfl⟩
  rw [hV] at hx0 k0 hown1 n0 n1 z0 ⊢
  clear hV
  have zV:W0.heap.size<=V.heap.size:=Nat.le_trans hB z0
  go_wp2_with (at_builtin;refine wpList_append_own _ rfl _ _ 27 rfl W0.heap.size 35 i0 (.agg #[.string ⟨#[]⟩,.slice none 0 0,.int .i64 0,.int .i64 0]) 4 56 Tryz.underlying27 hi hz0 hz1 hz2 rfl (by decide) _ _ _ rfl (World.ownsRow.alloc hown1 _) ⟨V.heap.size,0,none⟩ 1 1 [.string ⟨nm.toArray⟩,.slice o1 ats.length cap1,.int .i64 parent,.int .i64 deep] rfl rfl (four_cells V _ _ _ _ _) (fun u hu=>by simp at hu;rcases hu with rfl | rfl | rfl | rfl <;> rfl) (by rw [maxLen_eq];omega) (by omega) (by simp;omega) ?_;intro v2 w2 hown2 hgrow2 _)
  have KV:FK W0.heap.size V w2:=(FK.al V _ zV).trans (FK.grown (World.ownsRow.alloc hown1 _) hgrow2 (by simp;omega))
  have hownA:Hid (w2.ownsRow W0.heap.size 35 4 v2 (L++[(⟨nm,.slice o1 ats.length cap1,parent,deep⟩:FlM)]).length (cellsF (L++[⟨nm,.slice o1 ats.length cap1,parent,deep⟩]))):=(by rw [cellsF_snoc,List.length_append];exact hown2:w2.ownsRow W0.heap.size 35 4 v2 (L++[(⟨nm,.slice o1 ats.length cap1,parent,deep⟩:FlM)]).length (cellsF (L++[⟨nm,.slice o1 ats.length cap1,parent,deep⟩])))
  have HR0:Hid (FlRs W0 [⟨nm,.slice o1 ats.length cap1,parent,deep⟩] [⟨nm,ats,parent,deep⟩]):=(by
   have:=HN.out
   unfold NdC at this
   exact ⟨⟨rfl,this.2.2.1,rfl,rfl,hl⟩,trivial⟩:FlRs W0 [⟨nm,.slice o1 ats.length cap1,parent,deep⟩] [⟨nm,ats,parent,deep⟩])
  have hx1:=KV.box hx0 (by decide)
  have KW:=k0.trans KV
  clear hown2 hgrow2 hown1 n0 n1
  go_loopw [10,11] (fun u y wr=>∃ (i:Nat) (M:List FlM),i<=ks.length/\y=.int .i64 i/\wr.ownsRow W0.heap.size 35 4 u (L++M).length (cellsF (L++M))/\(L++M).length<=151/\FK W0.heap.size w2 wr/\FlRs W0 M (⟨nm,ats,parent,deep⟩ :: flL (L.length+1) L.length (deep+1) (ks.take i))/\(∀ k ∈ ks.take i,sh (deep+1) k)) (fun _ y _=>ks.length - (intOf y).toNat)
  case atStart=>exact ⟨0,_,Nat.zero_le _,rfl,hownA.out,by simp;omega,FK.refl _ _,by simpa [flL] using HR0.out,by simp⟩
  case round=>
   obtain ⟨i,M,hi',rfl,hoM,hlM,hkM,hRM,hsM⟩:=hrel
   have HSM:Hid (∀ k ∈ ks.take i,sh (deep+1) k):=hsM
   clear hsM
   have HOM:Hid (wr.ownsRow W0.heap.size 35 4 u10 (L++M).length (cellsF (L++M))):=hoM
   have HRM:Hid (FlRs W0 M (⟨nm,ats,parent,deep⟩ :: flL (L.length+1) L.length (deep+1) (ks.take i))):=hRM
   clear hoM hRM
   have bR:Below W0.heap.size W0 wr:=(hb.trans KW.low).trans hkM.low
   have hx2:=hkM.box hx1 (by decide)
   have m2:=bcell hx2 2 (.slice ok ks.length capk) rfl
   by_cases hlt:i<ks.length
   ·have hlt':(i:Int)<(ks.length:Int):=by omega
    obtain ⟨kid,hx, -⟩:=drop_at hlt
    obtain ⟨b',off',d0,d1,d2,rfl,e0,e1,e2,hkid⟩:=HKS.out.get hx
    rw [Nat.zero_add] at e0 e1 e2
    have HI:=IH.out kid (List.mem_of_getElem? hx)
    have j0:=(bR.cell (cell_lt3 e0)).trans e0
    have j1:=(bR.cell (cell_lt3 e1)).trans e1
    have j2:=(bR.cell (cell_lt3 e2)).trans e2
    have HC:=HI d0 d1 d2 (L++M) u10 L.length (deep+1) wr hkid bR HOM.out hlM (by omega)
    rw [show ((deep+1:Nat):Int)=(deep:Int)+1 from by omega] at HC
    have HX:Hid (ks[i]? = some kid):=hx
    clear HI e0 e1 e2 hx hkid
    go_wp2_with (go_at_call 32;refine HC.mono ?_;rintro e w3 ⟨v3,m3,cs3,rfl,ho3,hm3,hk3,hr3⟩;obtain ⟨o3,cap3,rfl⟩:=own_slice ho3)
    ·go_ret
     have hl1:=HRM.out.len
     have e1:(L++M).length=L.length+1+(flL (L.length+1) L.length (deep+1) (ks.take i)).length:=by rw [List.length_append,hl1];simp;omega
     refine ⟨_,m3,cs3,rfl,ho3,hm3,(KW.trans hkM).trans hk3,.inl ⟨by omega,?_⟩⟩
     rcases hr3 with ⟨-,h3 | h3⟩ | ⟨M',rfl, -,h3, -⟩
     ·exact big_kid HX.out e1 h3
     ·exact big_deep HX.out h3
     ·have h4:150<(L++M++M').length:=by omega
      have h5:=h3.len
      rw [show (L++M++M').length=(L++M).length+M'.length from List.length_append] at h4
      exact big_kid HX.out e1 (by omega)
    ·go_roundw
     case rel=>
      rcases hr3 with h3 | ⟨M',rfl,rfl,hR,hsk⟩
      ·exact absurd h3.1 (by omega)
      ·refine ⟨i+1,M++M',by omega,by go_num,by rw [<- List.append_assoc];exact ho3,by rw [<- List.append_assoc];exact hm3,hkM.trans hk3,?_,fun k hk=>by
        rw [List.take_add_one,HX.out,List.mem_append] at hk
        rcases hk with hk | hk
        ·exact HSM.out k hk
        ·simp at hk;rw [hk];exact hsk⟩
       have hl1:=HRM.out.len
       have e1:(L++M).length=L.length+1+(flL (L.length+1) L.length (deep+1) (ks.take i)).length:=by rw [List.length_append,hl1];simp;omega
       rw [e1] at hR
       rw [flL_more HX.out]
       exact FlRs.app HRM.out hR
     case measure=>simp [intOf];omega
   ·obtain rfl:i=ks.length:=by omega
    have HT:Hid (FlRs W0 M (flN L.length parent deep (.mk nm ats ks))):=(by have:=HRM.out;rw [List.take_length] at this;rw [flN];exact this:FlRs W0 M (flN L.length parent deep (.mk nm ats ks)))
    go_wp2_with fail
    go_ret
    have HS2:sh deep (.mk nm ats ks):=by
     unfold sh
     refine ⟨by omega,shL_of ?_⟩
     have:=HSM.out
     rwa [List.take_length] at this
    exact ⟨_,_,_,rfl,HOM.out,hlM,KW.trans hkM,.inr ⟨M,rfl,rfl,HT.out,HS2⟩⟩
end
section
open Go.RowKit
set_option maxHeartbeats 8000000
set_option maxRecDepth 20000
def fitA:Nat->List (Bs × Bs)->Option Nat
  | many,[]=>some many
  | many,a :: r=>if 100<a.1.length\/300<a.2.length then none else fitA (many+a.1.length+a.2.length) r
def fitL:Nat->List Fl->Bool
  | _,[]=>true
  | many,f :: r=>if 100<f.name.length\/20<f.attrs.length then false else match fitA (many+f.name.length) f.attrs with
    | none=>false
    | some m=>if 4000<m then false else fitL m r
def Fit (n:Nd):Prop:=(flN 0 (-1) 1 n).length<=150/\sh 1 n/\fitL 0 (flN 0 (-1) 1 n)=true
theorem fitA_no {many:Nat} {a:Bs × Bs} {r:List (Bs × Bs)} (h:100<a.1.length\/300<a.2.length):fitA many (a :: r)=none:=by rw [fitA,if_pos h]
theorem fitA_on {many:Nat} {a:Bs × Bs} {r:List (Bs × Bs)} (h1:¬ 100<a.1.length) (h2:¬ 300<a.2.length):fitA many (a :: r)=fitA (many+a.1.length+a.2.length) r:=by rw [fitA,if_neg (by rintro (h | h) <;> contradiction)]
theorem fitL_no {many:Nat} {f:Fl} {r:List Fl} (h:100<f.name.length\/20<f.attrs.length):fitL many (f :: r)=false:=by rw [fitL,if_pos h]
theorem fitL_a {many:Nat} {f:Fl} {r:List Fl} (h:fitA (many+f.name.length) f.attrs=none):fitL many (f :: r)=false:=by
  rw [fitL,h]
  split <;> rfl
theorem fitL_m {many m:Nat} {f:Fl} {r:List Fl} (h:fitA (many+f.name.length) f.attrs=some m) (hm:4000<m):fitL many (f :: r)=false:=by
  rw [fitL,h]
  split
  · rfl
  · simp [hm]
theorem fitL_on {many m:Nat} {f:Fl} {r:List Fl} (h1:¬ 100<f.name.length) (h2:¬ 20<f.attrs.length) (h:fitA (many+f.name.length) f.attrs=some m) (hm:¬ 4000<m):fitL many (f :: r)=fitL m r:=by
  rw [fitL,h,if_neg (by rintro (h | h) <;> contradiction)]
  simp [hm]
def FlF (W:World) (n:Nd) (v:Value) (w:World):Prop:=(¬ Fit n/\v=.slice none 0 0)\/(Fit n/\∃ M g cap,v=.slice (some ⟨g,0,none⟩) M.length cap/\0<M.length/\M.length<=150/\M.length<=cap/\RowF w g M/\FlRs W M (flN 0 (-1) 1 n))
theorem FlatsOf_fit (n:Nd) (c0 c1 c2:Value) (W:World) (hn:NdC W c0 c1 c2 n) :
    Calls Tryz.prog 9 #[.agg #[c0,c1,c2]] W fun e w'=>Below W.heap.size W w'/\∃ v,e=.returned v/\FlF W n v w':=by
  have HF:=flats_big W n
  unfold FlC2 at HF
  have hn':=hn
  obtain ⟨nm,ats,ks⟩:=n
  unfold NdC at hn'
  obtain ⟨rfl, -,⟨o1,cap1,rfl, -⟩,ok,capk,rfl, -⟩:=hn'
  generalize hN:Nd.mk nm ats ks=n at hn HF ⊢
  clear hN
  unfold strV at *
  have b1:=mal W (.cells #[.string ⟨nm.toArray⟩,.slice o1 ats.length cap1,.slice ok ks.length capk] 25)
  have n0:=mnew W #[.string ⟨nm.toArray⟩,.slice o1 ats.length cap1,.slice ok ks.length capk] 25 0 (.string ⟨nm.toArray⟩) rfl
  have n1:=mnew W #[.string ⟨nm.toArray⟩,.slice o1 ats.length cap1,.slice ok ks.length capk] 25 1 (.slice o1 ats.length cap1) rfl
  have n2:=mnew W #[.string ⟨nm.toArray⟩,.slice o1 ats.length cap1,.slice ok ks.length capk] 25 2 (.slice ok ks.length capk) rfl
  have HC:=HF _ _ _ [] (.slice none 0 0) (-1) 1 _ hn b1 (World.ownsRow_nil _ _ _ _) (by decide) (by decide)
  clear HF
  go_enter Tryz.func9,Tryz.ntmps9
  go_upto_region 3 with (go_at_call 32;refine HC.mono ?_;rintro e w1 ⟨v1,m1,cs1,rfl,ho1,hm1,hk1,hr1⟩;obtain ⟨o2,cap2,rfl⟩:=own_slice ho1)
  have hm1':(m1:Int)<=151:=by omega
  have bw:=b1.trans hk1.low
  by_cases hbig:150<m1
  · have hbig':150<(m1:Int):=by omega
    have HNF:Hid (¬ Fit n):=(fun hfit=>by
      rcases hr1 with ⟨-,h | h⟩ | ⟨M,rfl, -,h, -⟩
      · have:=hfit.1;simp at h;omega
      · exact h hfit.2.1
      · have:=hfit.1;have:=h.len;simp at *;omega:¬ Fit n)
    go_wp2_with fail
    go_ret
    exact ⟨bw,_,rfl,.inl ⟨HNF.out,rfl⟩⟩
  · have hbig':(m1:Int)<=150:=by omega
    rcases hr1 with h | ⟨M,rfl,rfl,hR,hsh⟩
    · exact absurd h.1 hbig
    simp only [List.nil_append,List.length_nil] at ho1 hR hbig' ⊢
    have hp:0<M.length:=by
      rw [hR.len]
      obtain ⟨f,r,e, -⟩:=flN_head 0 (-1) 1 n
      rw [e];simp
    obtain ⟨g,cap,hv,hg,hcap,hrow⟩:=row_of ho1 hp
    simp only [Value.slice.injEq,true_and] at hv
    obtain ⟨rfl,rfl⟩:=hv
    have HROW:Hid (RowF w1 g M):=hrow
    have HR:Hid (FlRs W M (flN 0 (-1) 1 n)):=hR
    have HSH:Hid (sh 1 n):=hsh
    clear hsh
    have hcap':(M.length:Int)<=(cap2:Int):=by omega
    clear hrow hR ho1 HC n0 n1 n2 b1 hk1 hm1 hm1'
    go_wp2_with fail
    go_loopw [4,5] (fun x y wr=>∃ many i:Nat,x=.int .i64 many/\y=.int .i64 i/\many<=4000/\i<=M.length/\fitL 0 (flN 0 (-1) 1 n)=fitL many ((flN 0 (-1) 1 n).drop i)/\Below w1.heap.size w1 wr) (fun _ y _=>M.length - (intOf y).toNat)
    case atStart=>exact ⟨0,0,rfl,rfl,by decide,Nat.zero_le _,rfl,Below.refl _ _⟩
    case round=>
      obtain ⟨many,i,rfl,rfl,hmy,hi,hfl,hbr⟩:=hrel
      have HFL:Hid (fitL 0 (flN 0 (-1) 1 n)=fitL many ((flN 0 (-1) 1 n).drop i)):=hfl
      clear hfl
      have bW:Below W.heap.size W wr:=bw.trans (hbr.mono bw.size)
      have hmy':(many:Int)<=4000:=by omega
      by_cases hlt:i<M.length
      · have hlt':(i:Int)<(M.length:Int):=by omega
        obtain ⟨x,hx, -⟩:=drop_at hlt
        obtain ⟨r0,r1, -, -⟩:=HROW.out i x hx
        obtain ⟨f,hLf,hfn,hfa, -⟩:=HR.out.get hx
        have hdr:(flN 0 (-1) 1 n).drop i=f :: (flN 0 (-1) 1 n).drop (i+1):=by
          obtain ⟨y,hy,hd⟩:=drop_at (l:=flN 0 (-1) 1 n) (k:=i) (by rw [<- HR.out.len];exact hlt)
          rw [hLf] at hy
          cases hy
          exact hd
        have HDR:Hid ((flN 0 (-1) 1 n).drop i=f :: (flN 0 (-1) 1 n).drop (i+1)):=hdr
        have HFN:Hid (x.nm=f.name):=hfn
        have HNO:Hid (fitL many ((flN 0 (-1) 1 n).drop i)=false->¬ Fit n):=(fun h hfit=>by have:=hfit.2.2;rw [HFL.out,h] at this;exact absurd this (by simp):fitL many ((flN 0 (-1) 1 n).drop i)=false->¬ Fit n)
        clear hdr hLf hfn
        have q0:=(hbr.cell (cell_lt3 r0)).trans r0
        have q1:=(hbr.cell (cell_lt3 r1)).trans r1
        obtain ⟨oa,capa,hxc,ha1,ha2, -,ha4⟩:=hfa
        rw [hxc] at q1
        have HA4:Hid (AtsAt W oa f.attrs):=ha4
        clear r0 r1 hx hxc ha4
        have hla:(f.attrs.length:Int)<=9223372036854775807:=by rw [maxLen_eq] at ha2;omega
        by_cases g1:100<x.nm.length
        · have g1':100<(x.nm.length:Int):=by omega
          have HNF:Hid (¬ Fit n):=HNO.out (by rw [HDR.out];exact fitL_no (.inl (by rw [<- HFN.out];exact g1)))
          go_wp2_with fail
          go_ret
          exact ⟨bW,_,rfl,.inl ⟨HNF.out,rfl⟩⟩
        · have g1':(x.nm.length:Int)<=100:=by omega
          by_cases g2:20<f.attrs.length
          · have g2':20<(f.attrs.length:Int):=by omega
            have HNF:Hid (¬ Fit n):=HNO.out (by rw [HDR.out];exact fitL_no (.inr g2))
            go_wp2_with fail
            go_ret
            exact ⟨bW,_,rfl,.inl ⟨HNF.out,rfl⟩⟩
          · have g2':(f.attrs.length:Int)<=20:=by omega
            go_wp2_with fail
            obtain ⟨wa,rfl⟩:∃ V,V=wr:=⟨_,rfl⟩
            go_loopw [4,6] (fun x' y wq=>∃ my k:Nat,x'=.int .i64 my/\y=.int .i64 k/\my<=4100+400 * k/\k<=f.attrs.length/\fitA (many+x.nm.length) f.attrs=fitA my (f.attrs.drop k)/\Below wa.heap.size wa wq) (fun _ y _=>f.attrs.length - (intOf y).toNat)
            case atStart=>exact ⟨many+x.nm.length,0,by go_num,rfl,by omega,Nat.zero_le _,rfl,Below.refl _ _⟩
            case round=>
              obtain ⟨my,k,rfl,rfl,hm2,hk2,hfa2,hbq⟩:=hrel
              have HFA:Hid (fitA (many+x.nm.length) f.attrs=fitA my (f.attrs.drop k)):=hfa2
              clear hfa2
              have bQ:Below W.heap.size W wr:=bW.trans (hbq.mono bW.size)
              have p1:=(hbq.cell (cell_lt3 q1)).trans q1
              have hm2':(my:Int)<=20000:=by omega
              by_cases hlk:k<f.attrs.length
              · have hlk':(k:Int)<(f.attrs.length:Int):=by omega
                obtain ⟨a,hxa,hda⟩:=drop_at hlk
                have HDA:Hid (f.attrs.drop k=a :: f.attrs.drop (k+1)):=hda
                have HNA:Hid (fitA my (f.attrs.drop k)=none->¬ Fit n):=(fun h=>HNO.out (by rw [HDR.out];exact fitL_a (by rw [<- HFN.out,HFA.out];exact h)):fitA my (f.attrs.drop k)=none->¬ Fit n)
                clear hda
                obtain ⟨b',off',rfl,d0,d1, -, -⟩:=HA4.out k a hxa
                have j0:=(bQ.cell (cell_lt3 d0)).trans d0
                have j1:=(bQ.cell (cell_lt3 d1)).trans d1
                unfold strV at j0 j1
                clear d0 d1 hxa
                by_cases g3:100<a.1.length
                · have g3':100<(a.1.length:Int):=by omega
                  have HNF:Hid (¬ Fit n):=HNA.out (by rw [HDA.out];exact fitA_no (.inl g3))
                  go_wp2_with fail
                  go_ret
                  exact ⟨bQ,_,rfl,.inl ⟨HNF.out,rfl⟩⟩
                · have g3':(a.1.length:Int)<=100:=by omega
                  by_cases g4:300<a.2.length
                  · have g4':300<(a.2.length:Int):=by omega
                    have HNF:Hid (¬ Fit n):=HNA.out (by rw [HDA.out];exact fitA_no (.inr g4))
                    go_wp2_with fail
                    go_ret
                    exact ⟨bQ,_,rfl,.inl ⟨HNF.out,rfl⟩⟩
                  · have g4':(a.2.length:Int)<=300:=by omega
                    have HFA2:Hid (fitA (many+x.nm.length) f.attrs=fitA (my+a.1.length+a.2.length) (f.attrs.drop (k+1))):=(by rw [HFA.out,HDA.out];exact fitA_on g3 g4:fitA (many+x.nm.length) f.attrs=fitA (my+a.1.length+a.2.length) (f.attrs.drop (k+1)))
                    go_upto_region 17 with fail
                    go_quiet (fail)
                    go_wp2_with fail
                    go_roundw
                    case rel=>exact ⟨my+a.1.length+a.2.length,k+1,by go_num,by go_num,by omega,by omega,HFA2.out,mdrew _ hbq⟩
                    case measure=>simp [intOf];omega
              · obtain rfl:k=f.attrs.length:=by omega
                have HFE:Hid (fitA (many+f.name.length) f.attrs=some my):=(by rw [<- HFN.out,HFA.out,List.drop_length];rfl:fitA (many+f.name.length) f.attrs=some my)
                by_cases g5:4000<my
                · have g5':4000<(my:Int):=by omega
                  have HNF:Hid (¬ Fit n):=HNO.out (by rw [HDR.out];exact fitL_m HFE.out g5)
                  go_wp2_with fail
                  go_ret
                  exact ⟨bQ,_,rfl,.inl ⟨HNF.out,rfl⟩⟩
                · have g5':(my:Int)<=4000:=by omega
                  have HFN2:Hid (fitL 0 (flN 0 (-1) 1 n)=fitL my ((flN 0 (-1) 1 n).drop (i+1))):=(by rw [HFL.out,HDR.out];exact fitL_on (by rw [<- HFN.out];exact g1) g2 HFE.out g5:fitL 0 (flN 0 (-1) 1 n)=fitL my ((flN 0 (-1) 1 n).drop (i+1)))
                  go_wp2_with fail
                  go_roundw
                  case rel=>exact ⟨my,i+1,rfl,by go_num,by omega,by omega,HFN2.out,hbr.trans (hbq.mono hbr.size)⟩
                  case measure=>simp [intOf];omega
      · obtain rfl:i=M.length:=by omega
        go_wp2_with fail
        go_ret
        exact ⟨bW,_,rfl,.inr ⟨⟨by rw [<- HR.out.len];omega,HSH.out,by rw [HFL.out,HR.out.len,List.drop_length];rfl⟩,M,g,cap2,rfl,hp,by omega,hcap,HROW.out.below hbr,HR.out⟩⟩
end
section
open Go.RowKit
theorem New_yes (E:Nat->Addr) (n:Nd) (c0 c1 c2:Value) (W:World) (hE:CE E W) (hn:NdC W c0 c1 c2 n) (hs:szN n<=1000000) (hc:(ckN n 1 0).1=0) :
  Calls Tryz.prog 10 #[.agg #[c0,c1,c2]] W fun e w'=>Below W.heap.size W w'/\∃ DB MB tg p,e=.returned (.tuple #[.pointer (some ⟨DB,0,none⟩),.nilIface])/\DocW W.heap.size tg w' DB MB p (newD n) (szN n) (szN n):=(New_any E n c0 c1 c2 W hE hn hs).mono fun e w' h=>⟨h.1,by
 rcases h.2 with h2 | h2
 ·exact absurd hc h2.1
 ·exact h2.2⟩
theorem New_no (E:Nat->Addr) (n:Nd) (c0 c1 c2:Value) (W:World) (hE:CE E W) (hn:NdC W c0 c1 c2 n) (hs:szN n<=1000000) (hc:(ckN n 1 0).1≠0) :
  Calls Tryz.prog 10 #[.agg #[c0,c1,c2]] W fun e w'=>Below W.heap.size W w'/\∃ pb,e=.returned (.tuple #[.pointer none,.iface 143 (.pointer (some ⟨pb,0,none⟩))]):=(New_any E n c0 c1 c2 W hE hn hs).mono fun e w' h=>⟨h.1,by
 rcases h.2 with ⟨-,pb,h2, -⟩ | h2
 ·exact ⟨pb,h2⟩
 ·exact absurd h2.1 hc⟩
end
section
open Go.RowKit
mutual
theorem ckN_sz:∀ (n:Nd) (deep ahead:Nat),(ckN n deep ahead).1=0->(ckN n deep ahead).2=ahead+szN n
 | .mk nm ats ks,deep,ahead,h=>by
  by_cases h1:ck1 nm ats deep ahead=0
  ·rw [ckN_zero h1] at h ⊢
   rw [ckK_sz ks _ _ h,szN]
   omega
  ·rw [ckN,if_neg h1] at h
   exact absurd h h1
theorem ckK_sz:∀ (l:List Nd) (deep ahead:Nat),(ckK l deep ahead).1=0->(ckK l deep ahead).2=ahead+szL l
 | [],_,ahead,_=>by rw [ckK,szL];rfl
 | k :: l,deep,ahead,h=>by
  by_cases h1:(ckN k deep ahead).1=0
  ·rw [ckK_zero h1] at h ⊢
   rw [ckK_sz l _ _ h,ckN_sz k _ _ h1,szL]
   omega
  ·rw [ckK_pos h1] at h
   exact absurd h h1
end
theorem New_S (E:Nat->Addr) (n:Nd) (c0 c1 c2:Value) (W:World) (hE:CE E W) (hn:NdC W c0 c1 c2 n) (hs:szN n<=1000000) (hc:(ckN n 1 0).1=0) :
  Calls Tryz.prog 10 #[.agg #[c0,c1,c2]] W fun e w'=>Below W.heap.size W w'/\∃ DB MB tg p,e=.returned (.tuple #[.pointer (some ⟨DB,0,none⟩),.nilIface])/\DocS W.heap.size tg w' DB MB p (newD n) (szN n) (szN n) (rkD n):=by
 refine (New_yes E n c0 c1 c2 W hE hn hs hc).mono ?_
 rintro e w' ⟨hb,DB,MB,tg,p,rfl,hd⟩
 have h1:=ckN_sz n 1 0 hc
 have h2:=ckN_le n 1 0 hc
 exact ⟨hb,DB,MB,tg,p,rfl,hd,Wd.new n (rkN_of n 1 0 hc),Cd.new n,by omega,hb.size⟩
section
variable {M:Dm} {r:Int->Nat}
def parD (M:Dm) (x:Int):Int:=match M x with | none => -1 | some e=>e.parent
end
end
section
open Go.RowKit
section
variable {E:Nat->Addr} {B:Nat} {tg:Tags} {W:World} {DB MB:Nat} {p:Int->Option Nat} {M:Dm} {nx c:Nat} {r:Int->Nat}
theorem Parent_par (h:DocW B tg W DB MB p M nx c) (n:Int) (hn:Wf64 n):Calls Tryz.prog 78 #[.pointer (some ⟨DB,0,none⟩),.int .i64 n] W fun e w'=>e=.returned (.int .i64 (parD M n))/\w'=W:=by
 have h1:=Parent_doc h n hn
 unfold parD
 cases hm:M n with
 | none=>rw [hm] at h1;exact h1
 | some e=>rw [hm] at h1;exact h1
end
end
section
open Go.RowKit Go.Shelf
set_option maxHeartbeats 4000000
set_option maxRecDepth 20000
section
variable {B:Nat} {tg:Tags} {W:World} {DB MB:Nat} {p:Int->Option Nat} {M:Dm} {nx c:Nat} {r:Int->Nat}
theorem above_some {M:Dm} {k:Nat} {m:Int} {e:Elm} (he:M m=some e):aboveM M (k+1) m=if e.parent<0 then [] else e.parent :: aboveM M k e.parent:=by
 rw [aboveM,he]
theorem above_any (g:Int->Bool) {k:Nat} {m:Int} {e:Elm} (he:M m=some e):(aboveM M (k+1) m).any g=(decide (0<=e.parent) && (g e.parent || (aboveM M k e.parent).any g)):=by
 rw [above_some he]
 by_cases hp:e.parent<0
 ·rw [if_pos hp,decide_eq_false (by omega)]
  rfl
 ·rw [if_neg hp,decide_eq_true (by omega)]
  simp
def mz (r:Int->Nat) (x:Int):Nat:=if 0<=x then r x+1 else 0
theorem mz_pos {r:Int->Nat} {x:Int} (h:0<=x):mz r x=r x+1:=by unfold mz;rw [if_pos h]
theorem mz_neg {r:Int->Nat} {x:Int} (h:¬ 0<=x):mz r x=0:=by unfold mz;rw [if_neg h]
theorem someAbove_doc (h:DocW B tg W DB MB p M nx c) (hw:Wd M r) (n:Int) (hn:Wf64 n) (g:Int->Bool) (lb:Array Value) (PT PA:Nat) (hlb:lb=#[.pointer (some ⟨PT,0,none⟩),.pointer (some ⟨PA,0,none⟩)])
  (hg:∀ m V,Wf64 m->Below W.heap.size W V->Calls Tryz.prog 163 #[.int .i64 m,.pointer (some ⟨PT,0,none⟩),.pointer (some ⟨PA,0,none⟩)] V fun e w'=>e=.returned (.bool (g m))/\Below V.heap.size V w') :
  Calls Tryz.prog 162 #[.pointer (some ⟨DB,0,none⟩),.int .i64 n,.func (.func 163) #[] lb] W fun e w'=>e=.returned (.bool ((aboveM M 11 n).any g))/\Below W.heap.size W w':=by
 subst hlb
 have PN:=Parent_par h n hn
 have HW:Hid (Wd M r):=hw
 have HG:Hid (∀ m V,Wf64 m->Below W.heap.size W V->Calls Tryz.prog 163 #[.int .i64 m,.pointer (some ⟨PT,0,none⟩),.pointer (some ⟨PA,0,none⟩)] V fun e w'=>e=.returned (.bool (g m))/\Below V.heap.size V w'):=hg
 have HH:Hid (DocW B tg W DB MB p M nx c):=h
 have hwp:Wf64 (parD M n):=by
  unfold parD
  cases hm:M n with
  | none=>exact WalkArith.wf_i64 (by decide)
  | some e=>exact (h.wf n e hm).1
 have h0:(aboveM M 11 n).any g=(decide (0<=parD M n) && (g (parD M n) || (aboveM M 10 (parD M n)).any g))/\(0<=parD M n->∃ e,M (parD M n)=some e/\r (parD M n)<=10):=by
  unfold parD
  cases hm:M n with
  | none=>
   refine ⟨?_,fun hh=>absurd hh (by decide)⟩
   rw [aboveM,hm]
   rfl
  | some e=>
   refine ⟨above_any g hm,fun hh=>?_⟩
   by_cases hn0:n=0
   ·subst hn0
    obtain ⟨e0,h1,h2⟩:=hw.root
    rw [hm] at h1
    cases h1
    have hh':0<=e.parent:=hh
    omega
   ·obtain ⟨q,hq, -, -⟩:=hw.up n e hm hn0
    exact ⟨q,hq,(hw.rb _ q hq).2⟩
 obtain ⟨T,hT⟩:∃ T,(aboveM M 11 n).any g=T:=⟨_,rfl⟩
 rw [hT] at h0 ⊢
 have HT0:Hid (T=(decide (0<=parD M n) && (g (parD M n) || (aboveM M 10 (parD M n)).any g))/\(0<=parD M n->∃ e,M (parD M n)=some e/\r (parD M n)<=10)):=h0
 clear hT h0 hg hw h
 go_enter Tryz.func162,Tryz.ntmps162
 go_wp2_with (go_at_call 78;refine PN.mono ?_;rintro e w1 ⟨rfl,h1⟩;rw [h1];clear h1)
 go_loopw [1] (fun y wr=>∃ (m:Int) (k:Nat),y=.int .i64 m/\T=(decide (0<=m) && (g m || (aboveM M k m).any g))/\(0<=m->∃ e,M m=some e/\r m<=k)/\Wf64 m/\Below W.heap.size W wr) (fun y _=>mz r (intOf y))
 case atStart=>exact ⟨parD M n,10,rfl,HT0.out.1,HT0.out.2,hwp,Below.refl _ _⟩
 case round=>
  obtain ⟨m,k,rfl,hT,hk,hwm,hb⟩:=hrel
  by_cases hm0:0<=m
  ·obtain ⟨e,he,hrk⟩:=hk hm0
   have hrb:=(HW.out.rb m e he).1
   obtain ⟨k',rfl⟩:∃ k',k=k'+1:=⟨k - 1,by omega⟩
   have GM:=HG.out m wr hwm hb
   have hdoc:=HH.out.below hb
   have PM:=fun V (hv:Below wr.heap.size wr V)=>Parent_par (hdoc.below hv) m hwm
   have hpe:parD M m=e.parent:=by unfold parD;rw [he]
   rw [hpe] at PM
   have hwe:=(hdoc.wf m e he).1
   rw [decide_eq_true hm0,above_any g he] at hT
   have hup:0<=e.parent->∃ q,M e.parent=some q/\r e.parent<=k'/\r e.parent<r m:=fun hh=>by
    by_cases hz:m=0
    ·subst hz
     obtain ⟨e0,h1,h2⟩:=HW.out.root
     rw [he] at h1
     cases h1
     omega
    ·obtain ⟨q,hq, -,hr⟩:=HW.out.up m e he hz
     exact ⟨q,hq,by omega,by omega⟩
   have HUP:Hid (0<=e.parent->∃ q,M e.parent=some q/\r e.parent<=k'/\r e.parent<r m):=hup
   cases hgm:g m with
   | true=>
    rw [hgm] at GM hT
    have HT:Hid (T=true):=(by rw [hT];rfl:T=true)
    clear hT hk hup
    go_wp2_with (go_at_call 163;refine GM.mono ?_;rintro e' w2 ⟨rfl,b2⟩)
    go_ret
    exact ⟨by rw [HT.out];rfl,mbel hb b2⟩
   | false=>
    rw [hgm] at GM hT
    have HT:Hid (T=(decide (0<=e.parent) && (g e.parent || (aboveM M k' e.parent).any g))):=(by rw [hT];simp:T=(decide (0<=e.parent) && (g e.parent || (aboveM M k' e.parent).any g)))
    clear hT hk hup hpe
    go_wp2_with (first | (go_at_call 163;refine GM.mono ?_;rintro e' w2 ⟨rfl,b2⟩) | (go_at_call 78;refine (PM _ b2).mono ?_;rintro e' w3 ⟨rfl,h3⟩;rw [h3];clear h3))
    go_roundw
    case rel=>exact ⟨e.parent,k',rfl,HT.out,fun hh=>by obtain ⟨q,h1,h2, -⟩:=HUP.out hh;exact ⟨q,h1,h2⟩,hwe,mbel hb b2⟩
    case measure=>
     show mz r e.parent<mz r m
     rw [mz_pos hm0]
     by_cases hpp:0<=e.parent
     ·obtain ⟨q, -, -,h3⟩:=HUP.out hpp
      rw [mz_pos hpp]
      omega
     ·rw [mz_neg hpp]
      omega
  ·rw [decide_eq_false hm0] at hT
   have HT:Hid (T=false):=(by rw [hT];rfl:T=false)
   clear hT hk
   go_wp2_with fail
   go_ret
   exact ⟨by rw [HT.out];rfl,hb⟩
end
end
section
open Go.RowKit Go.Shelf
set_option maxHeartbeats 4000000
set_option maxRecDepth 20000
abbrev tryV (PD PT:Nat):Value:=.func (.func 159) #[] #[.pointer (some ⟨PD,0,none⟩),.pointer (some ⟨PT,0,none⟩)]
def restM (M:Dm) (f:Nat) (a:Bs) (n:Int):Lk->Bool
 | .no=>true
 | .right=>fitM M f a (parD M n)
 | .below=>(aboveM M 11 n).any (fitM M f a)
theorem fitM_succ (M:Dm) (f:Nat) {t a b:Bs} {k:Lk} (h:cutM t=(a,k,b)) (n:Int):fitM M (f+1) t n=(fitSt M b n && restM M f a n k):=by
 rw [fitM,h]
 cases k <;> rfl
section
variable {B:Nat} {tg:Tags} {W:World} {DB MB:Nat} {p:Int->Option Nat} {M:Dm} {nx c:Nat} {r:Int->Nat}
theorem inner_any (PD PT PA:Nat) (a:Bs) (m:Int) (V:World) (res:Bool) (h1:V.cell? ⟨PT,0,none⟩=some (tryV PD PT)) (h2:V.cell? ⟨PA,0,none⟩=some (bV a))
  (IH:Calls Tryz.prog 159 #[bV a,.int .i64 m,.pointer (some ⟨PD,0,none⟩),.pointer (some ⟨PT,0,none⟩)] V fun e w'=>e=.returned (.bool res)/\Below V.heap.size V w') :
  Calls Tryz.prog 163 #[.int .i64 m,.pointer (some ⟨PT,0,none⟩),.pointer (some ⟨PA,0,none⟩)] V fun e w'=>e=.returned (.bool res)/\Below V.heap.size V w':=by
 go_enter Tryz.func163,Tryz.ntmps163
 go_wp2_with (go_at_call 159;refine IH.mono ?_;rintro e w1 ⟨rfl,hb1⟩)
 go_ret
 exact ⟨rfl,hb1⟩
theorem try_doc (h:DocW B tg W DB MB p M nx c) (hw:Wd M r) (hF:FitD M) (PD PT:Nat) (h1:W.cell? ⟨PD,0,none⟩=some (.pointer (some ⟨DB,0,none⟩))) (h2:W.cell? ⟨PT,0,none⟩=some (tryV PD PT)) :
  ∀ (f:Nat) (t:Bs) (n:Int) (V:World),t.length<f->t.length<=1000000->Wf64 n->Below W.heap.size W V->
  Calls Tryz.prog 159 #[bV t,.int .i64 n,.pointer (some ⟨PD,0,none⟩),.pointer (some ⟨PT,0,none⟩)] V fun e w'=>e=.returned (.bool (fitM M f t n))/\Below V.heap.size V w'
 | 0,_,_,_,hf,_,_,_=>by omega
 | f+1,t,n,V,hf,htl,hn,hb=>by
  have HIH:Hid (∀ (t:Bs) (n:Int) (V:World),t.length<f->t.length<=1000000->Wf64 n->Below W.heap.size W V->Calls Tryz.prog 159 #[bV t,.int .i64 n,.pointer (some ⟨PD,0,none⟩),.pointer (some ⟨PT,0,none⟩)] V fun e w'=>e=.returned (.bool (fitM M f t n))/\Below V.heap.size V w'):=try_doc h hw hF PD PT h1 h2 f
  obtain ⟨a,k,b,hc⟩:∃ a k b,cutM t=(a,k,b):=⟨_,_,_,rfl⟩
  have hbl:b.length<=1000000:=Nat.le_trans (cutM_step hc) htl
  have CU:=cut_any t a b k hc htl V
  rw [fitM_succ M f hc]
  have HH:Hid (DocW B tg W DB MB p M nx c):=h
  have SF:=fun X (hx:Below W.heap.size W X)=>stepFits_doc (HH.out.below hx) hF n hn b hbl
  obtain ⟨fs,hfs⟩:∃ fs,fitSt M b n=fs:=⟨_,rfl⟩
  rw [hfs] at SF ⊢
  have HAL:Hid (k≠.no->a.length<f/\a.length<=1000000):=(fun hk=>by have:=cutM_len hc hk;omega:k≠.no->a.length<f/\a.length<=1000000)
  have HB:Hid (Below W.heap.size W V):=hb
  clear hfs hc h hb
  cases fs with
  | false=>
   go_enter Tryz.func159,Tryz.ntmps159
   go_wp2_with (first | (go_at_call 160;refine CU.mono ?_;rintro e w1 ⟨rfl,b1⟩;have b2:=b1.alloc b1.size (.cells #[bV a] 9);have B2:=HB.out.trans (b2.mono HB.out.size);have q1:=(B2.cell (cell_lt3 h1)).trans h1) | (go_at_call 161;refine (SF _ B2).mono ?_;rintro e w2 ⟨rfl,b3⟩))
   go_ret
   exact ⟨rfl,mbel b2 b3⟩
  | true=>
   go_enter Tryz.func159,Tryz.ntmps159
   go_upto_region 4 with (first | (go_at_call 160;refine CU.mono ?_;rintro e w1 ⟨rfl,b1⟩;have b2:=b1.alloc b1.size (.cells #[bV a] 9);have B2:=HB.out.trans (b2.mono HB.out.size);have q1:=(B2.cell (cell_lt3 h1)).trans h1) | (go_at_call 161;refine (SF _ B2).mono ?_;rintro e w2 ⟨rfl,b3⟩))
   have hA:=World.alloc_heap_new w1 (.cells #[bV a] 9)
   have hA2:=bel_blk b3 hA
   have cA:=cell_one hA2
   have b4:=mbel b2 b3
   have B4:=HB.out.trans (b4.mono HB.out.size)
   have q2:=(B4.cell (cell_lt3 h1)).trans h1
   have q3:=(B4.cell (cell_lt3 h2)).trans h2
   obtain ⟨PA,hPA⟩:∃ PA,w1.heap.size=PA:=⟨_,rfl⟩
   rw [hPA] at cA ⊢
   clear hA hA2 hPA b3 q1
   cases k with
   | no=>
    go_wp2_with fail
    go_ret
    exact ⟨rfl,b4⟩
   | right=>
    have PN:=fun X (hx:Below W.heap.size W X)=>Parent_par (HH.out.below hx) n hn
    have hwp:Wf64 (parD M n):=by
     unfold parD
     cases hm:M n with
     | none=>exact WalkArith.wf_i64 (by decide)
     | some e=>exact (HH.out.wf n e hm).1
    have hal:=HAL.out (by simp)
    have PW:=PN w2.drew B4.drew
    have IH:=HIH.out a (parD M n) w2.drew hal.1 hal.2 hwp B4.drew
    go_upto_region 6 with fail
    go_region_with ((first | (go_at_call 78;refine PW.mono ?_;rintro e w3 ⟨rfl,h3⟩;rw [h3];clear h3) | (go_at_call 159;refine IH.mono ?_;rintro e w4 ⟨rfl,b5⟩)))
    all_goals go_wp2_with fail
    all_goals go_ret
    all_goals exact ⟨by rw [Bool.true_and];rfl,mbel b4.drew b5⟩
   | below=>
    have hal:=HAL.out (by simp)
    have SA:=someAbove_doc (HH.out.below B4) hw n hn (fitM M f a) _ PT PA rfl (fun m X hm hx=>inner_any PD PT PA a m X _ ((hx.cell (cell_lt3 q3)).trans q3) ((hx.cell (cell_lt3 cA)).trans cA) (HIH.out a m X hal.1 hal.2 hm (B4.trans (hx.mono B4.size))))
    go_wp2_with (go_at_call 162;refine SA.mono ?_;rintro e w3 ⟨rfl,b5⟩)
    go_ret
    exact ⟨by rw [Bool.true_and];rfl,mbel b4 b5⟩
end
end
section
open Go.RowKit Go.Shelf
set_option maxHeartbeats 4000000
set_option maxRecDepth 20000
theorem run_store_fn (P:Program) (w:World) (a:Addr) (f:Fn) (x y:Array Value) (m:Mode):(store a (.func f x y) m).run P w=stored P w a (.func f x y) m:=run_store P w a _ m rfl
attribute [local go_sem] run_store_fn
section
variable {B:Nat} {tg:Tags} {W:World} {DB MB:Nat} {p:Int->Option Nat} {M:Dm} {nx c:Nat} {r:Int->Nat}
theorem Fits_doc (h:DocW B tg W DB MB p M nx c) (hw:Wd M r) (hF:FitD M) (s:Bs) (hs:s.length<=1000000) (hs0:s≠[]) (n:Int) (hn:Wf64 n) :
  Calls Tryz.prog 115 #[.agg #[bV s],.pointer (some ⟨DB,0,none⟩),.int .i64 n] W fun e w'=>e=.returned (.bool (fitsM M s n))/\Below W.heap.size W w':=by
 have hem:s.isEmpty=false:=by
  cases s with
  | nil=>exact absurd rfl hs0
  | cons _ _=>rfl
 obtain ⟨hS0,hD0,hT0,hsz0,b0⟩:=three_blocks W (.cells #[bV s] 178) (.cells #[.pointer (some ⟨DB,0,none⟩)] 29) (.cells #[.nilFunc] 232)
 go_enter Tryz.func115,Tryz.ntmps115
 go_upto_region 4 with fail
 obtain ⟨U,hU⟩:∃ U,(((W.alloc (.cells #[bV s] 178)).alloc (.cells #[.pointer (some ⟨DB,0,none⟩)] 29)).alloc (.cells #[.nilFunc] 232))=U:=⟨_,rfl⟩
 rw [hU] at hS0 hD0 hT0 hsz0 b0 ⊢
 clear hU
 have c1:=cell_one hT0
 have f1:=froz_one hT0
 have hT1:=set_one hT0 (tryV (W.heap.size+1) (W.heap.size+1+1))
 have hD1:(U.setCell ⟨W.heap.size+1+1,0,none⟩ (tryV (W.heap.size+1) (W.heap.size+1+1))).heap[W.heap.size+1]? = some (.cells #[.pointer (some ⟨DB,0,none⟩)] 29):=(Below.heap_setCell _ _ _ _ (by simp only;omega)).trans hD0
 have hS1:(U.setCell ⟨W.heap.size+1+1,0,none⟩ (tryV (W.heap.size+1) (W.heap.size+1+1))).heap[W.heap.size]? = some (.cells #[bV s] 178):=(Below.heap_setCell _ _ _ _ (by simp only;omega)).trans hS0
 have b1:Below W.heap.size W (U.setCell ⟨W.heap.size+1+1,0,none⟩ (tryV (W.heap.size+1) (W.heap.size+1+1))):=b0.setCell (by simp only;omega) _
 go_upto_region 5 with fail
 obtain ⟨U1,hU1⟩:∃ U1,U.setCell ⟨W.heap.size+1+1,0,none⟩ (tryV (W.heap.size+1) (W.heap.size+1+1))=U1:=⟨_,rfl⟩
 rw [hU1] at hT1 hD1 hS1 b1 ⊢
 clear hU1
 have d1:=cell_one hT1
 have d2:=cell_one hD1
 have d3:=cell_one hS1
 have TR:=try_doc (h.below b1) hw hF (W.heap.size+1) (W.heap.size+1+1) d2 d1 (s.length+1) s n U1 (by omega) hs hn (Below.refl _ _)
 go_wp2_with (go_at_call 159;refine TR.mono ?_;rintro e w2 ⟨rfl,b2⟩)
 go_ret
 exact ⟨rfl,mbel b1 b2⟩
end
end
section
open Go.RowKit Go.Shelf
set_option maxHeartbeats 4000000
set_option maxRecDepth 20000
theorem sel_neY {s:Bs} (h:isSelM s=true):s≠[]:=by
 intro e
 subst e
 revert h
 decide
section
variable {B:Nat} {tg:Tags} {W:World} {DB MB:Nat} {p:Int->Option Nat} {M:Dm} {nx c:Nat} {r:Int->Nat}
theorem told1_any (h:DocW B tg W DB MB p M nx c) (hw:Wd M r) (hF:FitD M) (x:Rl) (hx:RlOk x) (nm:Bs) (n:Int) (hn:Wf64 n) (P1 P2 P3:Nat) (h1:W.cell? ⟨P1,0,none⟩=some (bV nm)) (h2:W.cell? ⟨P2,0,none⟩=some (.pointer (some ⟨DB,0,none⟩))) (h3:W.cell? ⟨P3,0,none⟩=some (.int .i64 n)) :
  Calls Tryz.prog 114 #[rlV x,.pointer (some ⟨P1,0,none⟩),.pointer (some ⟨P2,0,none⟩),.pointer (some ⟨P3,0,none⟩)] W fun e w'=>e=.returned (.bool (rlFits M nm n x))/\Below W.heap.size W w':=by
 have n0:=mbox W #[bV x.wh,bV x.nm,bV x.vl] 180
 have b0:=mal W (.cells #[bV x.wh,bV x.nm,bV x.vl] 180)
 have FD:=fun V (hv:Below W.heap.size W V)=>Fits_doc (h.below hv) hw hF x.wh hx.2.2.2 (sel_neY hx.1) n hn
 have hq:=ba_toL x.nm nm
 unfold rlFits
 go_enter Tryz.func114,Tryz.ntmps114
 go_upto_region 1 with fail
 obtain ⟨V,hV⟩:∃ V,W.alloc (.cells #[bV x.wh,bV x.nm,bV x.vl] 180)=V:=⟨_,rfl⟩
 rw [hV] at n0 b0 ⊢
 clear hV
 have k1:=(b0.cell (cell_lt3 h1)).trans h1
 have k2:=(b0.cell (cell_lt3 h2)).trans h2
 have k3:=(b0.cell (cell_lt3 h3)).trans h3
 have c0:=bcell n0 0 _ rfl
 have c1:=bcell n0 1 _ rfl
 have c2:=bcell n0 2 _ rfl
 have FD1:=FD V b0
 clear FD
 cases ha:(x.nm==nm) with
 | false=>
  rw [ha] at hq
  go_wp2_with fail
  go_ret
  exact ⟨by rw [ha];rfl,b0⟩
 | true=>
  rw [ha] at hq
  go_wp2_with (go_at_call 115;refine FD1.mono ?_;rintro e w1 ⟨rfl,b1⟩)
  go_ret
  exact ⟨by rw [ha];rfl,mbel b0 b1⟩
end
theorem heaviest_any (l:List Rl) (hok:∀ x ∈ l,RlOk x) (pf:Rl->Bool) (B0:Nat) (v:Value) (W:World) (h:W.ownsRow B0 180 3 v l.length (cellsR l)) (P1 P2 P3:Nat)
  (hg:∀ x V,x ∈ l->Below W.heap.size W V->Calls Tryz.prog 114 #[rlV x,.pointer (some ⟨P1,0,none⟩),.pointer (some ⟨P2,0,none⟩),.pointer (some ⟨P3,0,none⟩)] V fun e w'=>e=.returned (.bool (pf x))/\Below V.heap.size V w') :
  Calls Tryz.prog 113 #[v,.func (.func 114) #[] #[.pointer (some ⟨P1,0,none⟩),.pointer (some ⟨P2,0,none⟩),.pointer (some ⟨P3,0,none⟩)]] W fun e w'=>e=.returned (.tuple #[bV (hvM pf l).1,.bool (hvM pf l).2.1])/\Below W.heap.size W w':=by
 obtain ⟨o,cap,hvo,h1,h2,h3,h5⟩:=row_slice h
 have hlen:(l.length:Int)<=9223372036854775807:=by rw [maxLen_eq] at h2;omega
 have hcap:(l.length:Int)<=(cap:Int):=by omega
 have HR:Hid (W.ownsRow B0 180 3 v l.length (cellsR l)):=h
 have HG:Hid _:=hg
 have HK:Hid (∀ x ∈ l,RlOk x):=hok
 have H5:Hid (∀ g,v.ownBlock=some g->o=some ⟨g,0,none⟩):=h5
 subst hvo
 clear h hg h5 h3 hok
 go_enter Tryz.func113,Tryz.ntmps113
 go_wp2_with fail
 go_loopw [4,5,6,12] (fun a b m y wr=>∃ k:Nat,k<=l.length/\y=.int .i64 k/\a=bV (hvM pf (l.take k)).1/\b=.bool (hvM pf (l.take k)).2.1/\m=.int .i64 (hvM pf (l.take k)).2.2/\Below W.heap.size W wr) (fun _ _ _ y _=>l.length - (intOf y).toNat)
 case atStart=>exact ⟨0,Nat.zero_le _,rfl,rfl,rfl,rfl,Below.refl _ _⟩
 case round=>
  obtain ⟨k,hk,rfl,rfl,rfl,rfl,hb⟩:=hrel
  by_cases hlt:k<l.length
  ·have hlt':(k:Int)<(l.length:Int):=by omega
   obtain ⟨x,hx⟩:∃ x,l[k]? = some x:=⟨_,List.getElem?_eq_getElem hlt⟩
   obtain ⟨q0,q1,q2⟩:=cellsR_at hx
   obtain ⟨g,hgb,c0⟩:=row_get (own_bel HR.out hb) _ _ q0
   obtain ⟨g1,hgb1,c1⟩:=row_get (own_bel HR.out hb) _ _ q1
   obtain ⟨g2,hgb2,c2⟩:=row_get (own_bel HR.out hb) _ _ q2
   rw [hgb] at hgb1 hgb2
   cases hgb1
   cases hgb2
   have hog:=H5.out g hgb
   subst hog
   have hst:l.take (k+1)=l.take k++[x]:=by rw [List.take_add_one,hx];rfl
   have HST:Hid (hvM pf (l.take (k+1))=hvStep pf (hvM pf (l.take k)) x):=(by rw [hst,hvM_snoc]:hvM pf (l.take (k+1))=hvStep pf (hvM pf (l.take k)) x)
   have HOK:Hid (RlOk x):=HK.out x (List.mem_of_getElem? hx)
   have GX:=fun V (hv:Below wr.heap.size wr V)=>HG.out x V (List.mem_of_getElem? hx) (mbel hb hv)
   have WX:=fun V=>Weight_any x.wh HOK.out.2.2.2 V
   clear hst hx q0 q1 q2 hgb
   obtain ⟨A,hA⟩:∃ A,hvM pf (l.take k)=A:=⟨_,rfl⟩
   rw [hA] at HST ⊢
   clear hA
   obtain ⟨av,af,am⟩:=A
   obtain ⟨wt,hwt⟩:∃ t,wtM x.wh=t:=⟨_,rfl⟩
   simp only [hwt] at WX
   have HWT:Hid (wtM x.wh=wt):=hwt
   clear hwt
   have W1:=WX (wr.alloc (.cells #[bV x.wh,bV x.nm,bV x.vl] 180))
   have n3:=mbox wr #[bV x.wh,bV x.nm,bV x.vl] 180
   have b3:=mal wr (.cells #[bV x.wh,bV x.nm,bV x.vl] 180)
   go_upto_region 5 with fail
   obtain ⟨V3,hV3⟩:∃ V,wr.alloc (.cells #[bV x.wh,bV x.nm,bV x.vl] 180)=V:=⟨_,rfl⟩
   rw [hV3] at W1 n3 b3 ⊢
   clear hV3 WX
   have p0:=bcell n3 0 _ rfl
   go_upto_region 6 with (go_at_call 158;refine W1.mono ?_;rintro e w4 ⟨rfl,b4⟩)
   clear W1 p0
   have n4:=bel_blk b4 n3
   have B4:=mbel b3 b4
   have p0:=bcell n4 0 _ rfl
   have p1:=bcell n4 1 _ rfl
   have p2:=bcell n4 2 _ rfl
   by_cases hle:am<=wt
   ·have hle':(am:Int)<=(wt:Int):=by omega
    have GX4:=GX w4 B4
    clear GX
    cases hp:pf x with
    | true=>
     rw [hp] at GX4
     have hst2:hvM pf (l.take (k+1))=(x.vl,true,wt):=by rw [HST.out,hvStep_yes (by rw [HWT.out];exact hle) hp,HWT.out]
     have HS2:Hid (hvM pf (l.take (k+1))=(x.vl,true,wt)):=hst2
     clear hst2 hp
     go_upto_region 7 with (go_at_call 114;refine GX4.mono ?_;rintro e w5 ⟨rfl,b5⟩)
     have r2:=bcell (bel_blk b5 n4) 2 _ rfl
     go_wp2_with fail
     go_roundw
     case rel=>exact ⟨k+1,by omega,by go_num,by rw [HS2.out],by rw [HS2.out],by rw [HS2.out],mbel hb (mbel B4 b5)⟩
     case measure=>simp [intOf];omega
    | false=>
     rw [hp] at GX4
     have hst2:hvM pf (l.take (k+1))=(av,af,am):=by rw [HST.out,hvStep_no hp]
     have HS2:Hid (hvM pf (l.take (k+1))=(av,af,am)):=hst2
     clear hst2 hp
     go_wp2_with (go_at_call 114;refine GX4.mono ?_;rintro e w5 ⟨rfl,b5⟩)
     go_roundw
     case rel=>exact ⟨k+1,by omega,by go_num,by rw [HS2.out],by rw [HS2.out],by rw [HS2.out],mbel hb (mbel B4 b5)⟩
     case measure=>simp [intOf];omega
   ·have hle':¬ (am:Int)<=(wt:Int):=by omega
    have hst2:hvM pf (l.take (k+1))=(av,af,am):=by rw [HST.out,hvStep_big (by rw [HWT.out];exact hle)]
    have HS2:Hid (hvM pf (l.take (k+1))=(av,af,am)):=hst2
    clear hst2
    go_wp2_with fail
    go_roundw
    case rel=>exact ⟨k+1,by omega,by go_num,by rw [HS2.out],by rw [HS2.out],by rw [HS2.out],mbel hb B4⟩
    case measure=>simp [intOf];omega
  ·obtain rfl:k=l.length:=by omega
   have hge:¬ (l.length:Int)<(l.length:Int):=by omega
   have htk:l.take l.length=l:=List.take_length
   have HTK:Hid (l.take l.length=l):=htk
   clear htk
   rw [HTK.out]
   go_wp2_with fail
   go_ret2
   exact ⟨rfl,hb⟩
section
variable {B:Nat} {tg:Tags} {W:World} {DB MB:Nat} {p:Int->Option Nat} {M:Dm} {nx c:Nat} {r:Int->Nat}
def tdR:Option Bs->Value
 | none=>.tuple #[.string ⟨#[]⟩,.bool false]
 | some v=>.tuple #[bV v,.bool true]
theorem hv_unfound (pf:Rl->Bool):∀ (l:List Rl) (a:Bs × Bool × Nat),(a.2.1=false->a.1=[])->(l.foldl (hvStep pf) a).2.1=false->(l.foldl (hvStep pf) a).1=[]
 | [],_,ha,h=>ha h
 | x :: l,a,ha,h=>by
  rw [List.foldl_cons] at h ⊢
  refine hv_unfound pf l _ (fun h1=>?_) h
  unfold hvStep at h1 ⊢
  split
  ·next hc=>rw [if_pos hc] at h1;cases h1
  ·next hc=>rw [if_neg hc] at h1;exact ha h1
theorem told_any (h:DocW B tg W DB MB p M nx c) (hw:Wd M r) (hF:FitD M) (l:List Rl) (hok:∀ x ∈ l,RlOk x) (B0:Nat) (v:Value) (hl:W.ownsRow B0 180 3 v l.length (cellsR l)) (nm:Bs) (n:Int) (hn:Wf64 n) :
  Calls Tryz.prog 79 #[.pointer (some ⟨DB,0,none⟩),v,.int .i64 n,bV nm] W fun e w'=>e=.returned (tdR (toldM M l nm n))/\Below W.heap.size W w':=by
 obtain ⟨k0,k1,k2, -,b0⟩:=three_blocks W (.cells #[.pointer (some ⟨DB,0,none⟩)] 29) (.cells #[.int .i64 n] 3) (.cells #[bV nm] 9)
 obtain ⟨ov,kv,hvv⟩:=own_slice hl
 subst hvv
 have HD:Hid (DocW B tg W DB MB p M nx c):=h
 have HL:Hid (W.ownsRow B0 180 3 (.slice ov l.length kv) l.length (cellsR l)):=hl
 have HK:Hid (∀ x ∈ l,RlOk x):=hok
 clear h hl hok
 obtain ⟨res,hres⟩:∃ x,toldM M l nm n=x:=⟨_,rfl⟩
 have hR:=hres
 unfold toldM at hR
 rw [hres]
 clear hres
 have AT:=fun V (hv:Below W.heap.size W V)=>Attr_doc (HD.out.below hv) n hn nm
 have hat:attD M n nm=atM M n nm:=rfl
 simp only [hat] at AT
 clear hat
 go_enter Tryz.func79,Tryz.ntmps79
 go_upto_region 1 with fail
 obtain ⟨V,hV⟩:∃ V,((W.alloc (.cells #[.pointer (some ⟨DB,0,none⟩)] 29)).alloc (.cells #[.int .i64 n] 3)).alloc (.cells #[bV nm] 9)=V:=⟨_,rfl⟩
 rw [hV] at k0 k1 k2 b0 ⊢
 clear hV
 have d0:=cell_one k0
 have d1:=cell_one k1
 have d2:=cell_one k2
 have AT1:=AT V b0
 clear AT
 cases ha:atM M n nm with
 | some av=>
  rw [ha] at hR AT1
  subst hR
  simp only [Option.getD_some,Option.isSome_some] at AT1
  go_wp2_with (go_at_call 28;refine AT1.mono ?_;rintro e w1 ⟨rfl,b1⟩)
  go_ret2
  exact ⟨rfl,mbel b0 b1⟩
 | none=>
  rw [ha] at hR AT1
  simp only [Option.getD_none,Option.isSome_none] at AT1
  go_upto_region 4 with (go_at_call 28;refine AT1.mono ?_;rintro e w1 ⟨rfl,b1⟩)
  have B1:=mbel b0 b1
  have HV:=heaviest_any l HK.out (rlFits M nm n) B0 (.slice ov l.length kv) w1 (own_bel HL.out B1) (W.heap.size+1+1) W.heap.size (W.heap.size+1) (fun x X hx hX=>told1_any (HD.out.below (mbel B1 hX)) hw hF x (HK.out x hx) nm n hn _ _ _ (((mbel b1 hX).cell (cell_lt3 d2)).trans d2) (((mbel b1 hX).cell (cell_lt3 d0)).trans d0) (((mbel b1 hX).cell (cell_lt3 d1)).trans d1))
  have hun:=hv_unfound (rlFits M nm n) l ([],false,0) (fun _=>rfl)
  have hun':(hvM (rlFits M nm n) l).2.1=false->(hvM (rlFits M nm n) l).1=[]:=hun
  obtain ⟨A,hA⟩:∃ A,hvM (rlFits M nm n) l=A:=⟨_,rfl⟩
  rw [hA] at HV hR hun'
  clear hA hun
  obtain ⟨hv,hf,hm⟩:=A
  have HRR:Hid ((if hf=true then some hv else none)=res):=hR
  have HUN:Hid (hf=false->hv=[]):=hun'
  clear hR hun' AT1
  go_wp2_with (go_at_call 113;refine HV.mono ?_;rintro e w2 ⟨rfl,b2⟩)
  go_ret2
  refine ⟨?_,mbel B1 b2⟩
  rw [<- HRR.out]
  cases hf with
  | true=>rfl
  | false=>rw [HUN.out rfl];rfl
end
end
section
open Go.RowKit Go.Shelf
set_option maxHeartbeats 4000000
set_option maxRecDepth 20000
section
variable {B:Nat} {tg:Tags} {W:World} {DB MB:Nat} {p:Int->Option Nat} {M:Dm} {nx c:Nat} {r:Int->Nat}
theorem wd_par64 (h:DocW B tg W DB MB p M nx c) (n:Int):Wf64 (parM M n):=by
 unfold parM
 cases hm:M n with
 | none=>exact WalkArith.wf_i64 (by decide)
 | some e=>exact (h.wf n e hm).1
theorem Of_any (h:DocW B tg W DB MB p M nx c) (hw:Wd M r) (hF:FitD M) (l:List Rl) (hok:∀ x ∈ l,RlOk x) (B0:Nat) (v:Value) (hl:W.ownsRow B0 180 3 v l.length (cellsR l)) (n:Int) (hn:Wf64 n) (nm:Bs) :
  Calls Tryz.prog 43 #[.pointer (some ⟨DB,0,none⟩),v,.int .i64 n,bV nm] W fun e w'=>e=.returned (bV (ofM M l nm n))/\Below W.heap.size W w':=by
 obtain ⟨ov,kv,hvv⟩:=own_slice hl
 subst hvv
 have NA:=Name_doc h n hn
 have IN:=isNameS_any nm W
 have HD:Hid (DocW B tg W DB MB p M nx c):=h
 have HL:Hid (W.ownsRow B0 180 3 (.slice ov l.length kv) l.length (cellsR l)):=hl
 have HK:Hid (∀ x ∈ l,RlOk x):=hok
 have HF:Hid (FitD M):=hF
 have HW:Hid (Wd M r):=hw
 clear h hl hok hw hF
 cases hm:M n with
 | none=>
  rw [hm] at NA
  have ho:ofM M l nm n=[]:=by unfold ofM;rw [hm];rfl
  rw [ho]
  clear ho hm
  go_enter Tryz.func43,Tryz.ntmps43
  go_wp2_with (go_at_call 76;refine NA.mono ?_;rintro e w1 ⟨rfl,h⟩;rw [h];clear h)
  go_ret
  exact ⟨rfl,Below.refl _ _⟩
 | some e0=>
  rw [hm] at NA
  have hne:=(HF.out n e0 hm).1
  have hq:=ba_toL e0.name []
  have hq1:(e0.name==[])=false:=by simpa using hne
  rw [hq1] at hq
  cases hN:isNmS nm with
  | false=>
   rw [hN] at IN
   have ho:ofM M l nm n=[]:=by unfold ofM;rw [hN];simp
   rw [ho]
   clear ho hm
   go_enter Tryz.func43,Tryz.ntmps43
   go_wp2_with (first | (go_at_call 76;refine NA.mono ?_;rintro e w1 ⟨rfl,h⟩;rw [h];clear h) | (go_at_call 77;refine IN.mono ?_;rintro e w1 ⟨rfl,h⟩;rw [h];clear h))
   go_ret
   exact ⟨rfl,Below.refl _ _⟩
  | true=>
   rw [hN] at IN
   have ho:=ofM_in (l:=l) hm hN
   rw [ho]
   obtain ⟨res,hres⟩:∃ x,ofF M l nm 12 n=x:=⟨_,rfl⟩
   rw [hres]
   have HRS:Hid (ofF M l nm 12 n=res):=hres
   have HN0:Hid (M n=some e0):=hm
   have hrn:=(HW.out.rb n e0 hm).2
   clear ho hres hm
   go_enter Tryz.func43,Tryz.ntmps43
   go_upto_region 3 with (first | (go_at_call 76;refine NA.mono ?_;rintro e w1 ⟨rfl,h⟩;rw [h];clear h) | (go_at_call 77;refine IN.mono ?_;rintro e w1 ⟨rfl,h⟩;rw [h];clear h))
   clear NA IN
   go_loopw [2] (fun y wr=>∃ (f:Nat) (k:Int),y=.int .i64 k/\Wf64 k/\ofF M l nm f k=res/\(k<0\/∃ e,M k=some e/\r k<=f)/\Below W.heap.size W wr) (fun y _=>if intOf y<0 then 0 else r (intOf y))
   case atStart=>exact ⟨12,n,rfl,hn,HRS.out,.inr ⟨e0,HN0.out,by omega⟩,Below.refl _ _⟩
   case round=>
    obtain ⟨f,k,rfl,hk64,hof,hin,hb⟩:=hrel
    have HOF:Hid (ofF M l nm f k=res):=hof
    have HIN:Hid (k<0\/∃ e,M k=some e/\r k<=f):=hin
    clear hof hin
    have FO:=fun V=>firstOf_any nm V
    by_cases hk:k<0
    ·have hk':¬ (0:Int)<=k:=by omega
     have hre:res=firstM nm:=by rw [<- HOF.out,ofF_neg l nm f hk]
     subst hre
     have FO1:=FO wr
     go_wp2_with (go_at_call 81;refine FO1.mono ?_;rintro e w1 ⟨rfl,h⟩;rw [h];clear h)
     go_ret
     exact ⟨rfl,hb⟩
    ·have hk':(0:Int)<=k:=by omega
     have hin:∃ e,M k=some e/\r k<=f:=by
      rcases HIN.out with h | h
      ·exact absurd h hk
      ·exact h
     obtain ⟨ek,hek,hrf⟩:=hin
     have hr1:=(HW.out.rb k ek hek).1
     obtain ⟨f,rfl⟩:∃ g,f=g+1:=⟨f - 1,by omega⟩
     have HEK:Hid (M k=some ek):=hek
     clear hek
     have TD:=told_any (HD.out.below hb) HW.out HF.out l HK.out B0 _ (own_bel HL.out hb) nm k hk64
     cases ht:toldM M l nm k with
     | some tv=>
      rw [ht] at TD
      unfold tdR at TD
      have hre:res=tv:=by rw [<- HOF.out,ofF_told f hk' ht]
      subst hre
      clear ht
      go_wp2_with (go_at_call 79;refine TD.mono ?_;rintro e w1 ⟨rfl,b1⟩)
      go_ret
      exact ⟨rfl,mbel hb b1⟩
     | none=>
      rw [ht] at TD
      unfold tdR at TD
      have HT:Hid (toldM M l nm k=none):=ht
      clear ht
      go_upto_region 8 with (go_at_call 79;refine TD.mono ?_;rintro e w1 ⟨rfl,b1⟩)
      have IH:=isInh_any nm w1
      have PA:Calls Tryz.prog 78 #[.pointer (some ⟨DB,0,none⟩),.int .i64 k] w1 fun r w'=>r=.returned (.int .i64 (parM M k))/\w'=w1:=Parent_doc (HD.out.below (mbel hb b1)) k hk64
      have FO1:=FO w1
      cases hi:isInh nm with
      | false=>
       rw [hi] at IH
       have hre:res=firstM nm:=by rw [<- HOF.out,ofF_end f hk' HT.out hi]
       subst hre
       clear hi
       go_wp2_with (first | (go_at_call 80;refine IH.mono ?_;rintro e w2 ⟨rfl,h⟩;rw [h];clear h) | (go_at_call 81;refine FO1.mono ?_;rintro e w1 ⟨rfl,h⟩;rw [h];clear h))
       go_ret
       exact ⟨rfl,mbel hb b1⟩
      | true=>
       rw [hi] at IH
       have hre:ofF M l nm f (parM M k)=res:=by rw [<- HOF.out,ofF_up f hk' HT.out hi]
       have hpp:(parM M k<0)\/((0<=parM M k)/\∃ q,M (parM M k)=some q/\r k=r (parM M k)+1):=by
        by_cases h0:k=0
        ·subst h0;rw [HW.out.root_par];exact .inl (by decide)
        ·obtain ⟨q,hq,hr⟩:=HW.out.up_par HEK.out h0
         exact .inr ⟨HW.out.pos hq,q,hq,hr⟩
       have hp64:=wd_par64 HD.out k
       obtain ⟨pk,hpk⟩:∃ x,parM M k=x:=⟨_,rfl⟩
       rw [hpk] at hre hpp hp64 PA
       have HRE:Hid (ofF M l nm f pk=res):=hre
       have HPP:Hid ((pk<0)\/((0<=pk)/\∃ q,M pk=some q/\r k=r pk+1)):=hpp
       clear hi hpk hre hpp
       go_wp2_with (first | (go_at_call 80;refine IH.mono ?_;rintro e w2 ⟨rfl,h⟩;rw [h];clear h) | (go_at_call 78;refine PA.mono ?_;rintro e w1 ⟨rfl,h⟩;rw [h];clear h))
       go_roundw
       case rel=>
        refine ⟨f,pk,rfl,hp64,HRE.out,?_,mbel hb b1⟩
        rcases HPP.out with h | ⟨_,q,hq,hr⟩
        ·exact .inl h
        ·exact .inr ⟨q,hq,by omega⟩
       case measure=>
        have hkn:¬ k<0:=by omega
        show (if pk<0 then 0 else r pk)<(if k<0 then 0 else r k)
        rw [if_neg hkn]
        rcases HPP.out with h | ⟨h1,q,hq,hr⟩
        ·rw [if_pos h];omega
        ·rw [if_neg (show ¬ pk<0 by omega)];omega
end
end
section
open Go.RowKit Go.Shelf
set_option maxHeartbeats 4000000
structure NE (E:Nat->Addr) (w:World):Prop where
  c1:w.cell? ⟨7,0,none⟩=some (eV (E 1))
  c2:w.cell? ⟨6,0,none⟩=some (eV (E 2))
  c3:w.cell? ⟨4,0,none⟩=some (eV (E 3))
  c7:w.cell? ⟨3,0,none⟩=some (eV (E 7))
  c9:w.cell? ⟨5,0,none⟩=some (eV (E 9))
  c10:w.cell? ⟨2,0,none⟩=some (eV (E 10))
  sy:∃ a,w.cell? ⟨12,0,none⟩=some (eV a)
  rg:∃ a,w.cell? ⟨13,0,none⟩=some (eV a)
  tab:Lib.TabIs Tryz.prog w "internal/strconv.uint64pow10" .u64 Lib.pow10Tab
  blk:∀ k,1<=k->k<=10->∃ c t,w.heap[(E k).block]? = some (.cells c t (0,0))
  ne:∀ j k,1<=j->j<=10->1<=k->k<=10->j≠k->E j≠E k
theorem blk_lt {w:World} {b:Nat} {o:Obj} (h:w.heap[b]? = some o):b<w.heap.size:=(Array.getElem?_eq_some_iff.1 h).1
def ErC (E:Nat->Addr) (c:Nat) (v:Value) (w:World):Prop:=1<=c/\c<=10/\(v=eV (E c)\/∃ pb po,v=.iface 143 (.pointer (some ⟨pb,po,none⟩))/\w.cell? ⟨pb,po+1,none⟩=some (eV (E c)))
def FtV (E:Nat->Addr) (f:Ft) (base:Nat) (v:Value) (w:World):Prop:=∃ pb,base<=pb/\v=.iface 143 (.pointer (some ⟨pb,0,none⟩))/\w.heap[pb]? = some (.cells #[.int .i64 f.pl,eV (E f.code)] 145)
theorem isB_any {E:Nat->Addr} {w:World} {c:Nat} {v:Value} (h:NE E w) (hv:ErC E c v w) :
    Calls Tryz.prog 123 #[v,eV (E 2)] w fun e w'=>e=.returned (.bool (decide (c=2)))/\w'=w:=by
  obtain ⟨h1,h2,hv⟩:=hv
  obtain ⟨cc,ct,hc⟩:=h.blk c h1 h2
  obtain ⟨c',t',hc'⟩:=h.blk 2 (by omega) (by omega)
  rcases hv with rfl | ⟨pb,po,rfl,hp⟩
  · by_cases e:c=2
    · subst e;simp only [decide_true];exact is_same _ _
    · simp only [e,decide_false];exact is_other _ _ _ _ _ _ _ (h.ne c 2 h1 h2 (by omega) (by omega) e) hc hc'
  · by_cases e:c=2
    · subst e;simp only [decide_true];exact is_fault_same _ _ _ _ hp
    · simp only [e,decide_false];exact is_fault_other _ _ _ _ _ _ _ _ _ hp (h.ne c 2 h1 h2 (by omega) (by omega) e) hc hc'
theorem faultOf_any {E:Nat->Addr} {w:World} {c:Nat} {v:Value} (h:NE E w) (hv:ErC E c v w) (n:Int) :
    Calls Tryz.prog 85 #[.int .i64 n,v] w fun e w'=>∃ u,e=.returned u/\FtV E ⟨kindC c,n⟩ w.heap.size u w'/\Below w.heap.size w w':=by
  have IB:=isB_any h hv
  have e2:=h.c2
  have e10:=h.c10
  clear h hv
  unfold kindC
  by_cases hc:c=2
  · simp only [hc,decide_true,if_true] at IB ⊢
    go_enter Tryz.func85,Tryz.ntmps85
    go_wp2_with (go_at_call 123;refine IB.mono ?_;rintro e w1 ⟨rfl,rfl⟩)
    go_ret
    exact ⟨_,rfl,⟨_,Nat.le_refl _,rfl,World.alloc_heap_new _ _⟩,(Below.refl _ _).alloc Nat.le.refl _⟩
  · simp only [hc,decide_false,if_false] at IB ⊢
    go_enter Tryz.func85,Tryz.ntmps85
    go_wp2_with (go_at_call 123;refine IB.mono ?_;rintro e w1 ⟨rfl,rfl⟩)
    go_ret
    exact ⟨_,rfl,⟨_,Nat.le_refl _,rfl,World.alloc_heap_new _ _⟩,(Below.refl _ _).alloc Nat.le.refl _⟩
def PathAt (w:World) (p:Option Nat):List (Int × Mv)->Prop
  | []=>p=none
  | (n,m) :: r=>∃ b q,p=some b/\w.heap[b]? = some (.cells #[.int .i64 n,.pointer (q.map fun x=>⟨x,0,none⟩),.int .i64 m.a.n,.int .i64 m.a.d,.int .i64 m.b.n,.int .i64 m.b.d,.int .i64 m.c.n,.int .i64 m.c.d,.int .i64 m.d.n,.int .i64 m.d.d,.int .i64 m.e.n,.int .i64 m.e.d,.int .i64 m.f.n,.int .i64 m.f.d] 116)/\PathAt w q r
abbrev pV (p:Option Nat):Value:=.pointer (p.map fun x=>⟨x,0,none⟩)
theorem PathAt.keep {w w':World} (hk:∀ (b:Nat) (t:Obj),w.heap[b]? = some t->(∃ c,t=.cells c 116)->w'.heap[b]? = some t):∀ {p:Option Nat} {l:List (Int × Mv)},PathAt w p l->PathAt w' p l
  | _,[],h=>h
  | _,(_,_) :: _,⟨b,q,h1,h2,h3⟩=>⟨b,q,h1,hk b _ h2 ⟨_,rfl⟩,PathAt.keep hk h3⟩
def WiR (n:Int) (l:List (Int × Mv)) (w:World) (e:Ending) (w':World):Prop:=e=.returned (.bool (decide (n ∈ l.map Prod.fst)))/\w'=w
def WiL (n:Int) (l:List (Int × Mv)) (w:World) (g:Nat) (y:Value) (wr:World):Prop:=∃ (p:Option Nat) (r:List (Int × Mv)),y=pV p/\PathAt w p r/\(n ∈ l.map Prod.fst↔n ∈ r.map Prod.fst)/\r.length<=g/\wr=w
theorem within_any (w:World) (p:Option Nat) (l:List (Int × Mv)) (n:Int) (h:PathAt w p l) :
    Calls Tryz.prog 82 #[pV p,.int .i64 n] w fun e w'=>WiR n l w e w':=by
  have H0:Hid (PathAt w p l):=h
  clear h
  go_enter Tryz.func82,Tryz.ntmps82
  go_upto_region 1 with fail
  go_loopg [0] l.length (fun g y wr=>WiL n l w g y wr)
  case atStart=>exact ⟨p,l,rfl,H0.out,Iff.rfl,Nat.le_refl _,rfl⟩
  case round=>
    obtain ⟨p,r,rfl,hP,hiff,hlen,rfl⟩:=hrel
    have HI:Hid (n ∈ l.map Prod.fst↔n ∈ r.map Prod.fst):=hiff
    clear hiff
    match r,hP,hlen,HI with
    | [],hP,hlen,HI=>
      obtain rfl:p=none:=hP
      have hd:Hid (decide (n ∈ l.map Prod.fst)=false):=decide_eq_false (fun h=>by have:=HI.out.1 h;simp at this)
      clear hP
      simp only [pV,Option.map_none]
      go_wp2
      go_ret
      exact ⟨by rw [hd.out];rfl,rfl⟩
    | (k,m) :: r,⟨b,q,hp,hb,hq⟩,hlen,HI=>
      subst hp
      have c0:=bcell hb 0 _ rfl
      have c1:=bcell hb 1 _ rfl
      have HQ:Hid (PathAt wr q r):=hq
      clear hb hq
      simp only [pV,Option.map_some]
      by_cases hk:k=n
      · have hd:Hid (decide (n ∈ l.map Prod.fst)=true):=decide_eq_true (HI.out.2 (by simp [hk]))
        have hkz:(k==n)=true:=by simpa using hk
        clear hk
        go_wp2
        go_ret
        exact ⟨by rw [hd.out];rfl,rfl⟩
      · have hkz:(k==n)=false:=by simpa using hk
        obtain ⟨pq,hpq⟩:∃ x,(Option.map (fun x=>(⟨x,0,none⟩:Addr)) q)=x:=⟨_,rfl⟩
        rw [hpq] at c1
        go_wp2
        go_roundg r.length
        case measure=>simp at hlen;omega
        case rel=>
          rw [<- hpq]
          refine ⟨q,r,rfl,HQ.out,HI.out.trans ?_,Nat.le_refl _,rfl⟩
          simp [Ne.symm hk]
end
end Go.Proofs.YtgphclgmmocdhaaGreatDoor

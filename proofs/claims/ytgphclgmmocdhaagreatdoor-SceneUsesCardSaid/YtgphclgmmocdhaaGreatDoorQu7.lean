/-
  Parts of the proof.
-/
import Derived.Test.YtgphclgmmocdhaaGreatDoorQu5
import Derived.Deep.CutRange
import Derived.RangeFuncNested
import Derived.RangeFuncBound
import Derived.Shelf.RegionOpen
import Derived.OwnWalkIn
import Derived.LoopNIn
import Derived.LoopIn
import Derived.Deep.AppendLies
import Derived.Deep.RegionLaw
namespace Go.Proofs.YtgphclgmmocdhaaGreatDoor
section
open Go.RowKit
structure PB (a:Qt):Prop where
 x1:1<=a.xd
 x2:a.xd<=20
 x3 : -20000<=a.xn
 x4:a.xn<=20000
 y1:1<=a.yd
 y2:a.yd<=20
 y3 : -20000<=a.yn
 y4:a.yn<=20000
end
section
open Go.RowKit
set_option maxHeartbeats 4000000
set_option maxRecDepth 20000
structure PtC (w:World) (b i:Nat) (a:Qt):Prop where
 c0:w.cell? ⟨b,i,none⟩=some (.int .i64 a.xn)
 c1:w.cell? ⟨b,i+1,none⟩=some (.int .i64 a.xd)
 c2:w.cell? ⟨b,i+2,none⟩=some (.int .i64 a.yn)
 c3:w.cell? ⟨b,i+3,none⟩=some (.int .i64 a.yd)
 pi:PI a
theorem PtC.below {w w':World} {b i n:Nat} {a:Qt} (h:PtC w b i a) (hb:Below n w w') (hn:w.heap.size<=n):PtC w' b i a:=by
 have hl:b<n:=Nat.lt_of_lt_of_le (cell_lt h.c0) hn
 exact ⟨(hb.cell (p:=⟨b,i,none⟩) hl).trans h.c0,(hb.cell (p:=⟨b,i+1,none⟩) hl).trans h.c1,(hb.cell (p:=⟨b,i+2,none⟩) hl).trans h.c2,(hb.cell (p:=⟨b,i+3,none⟩) hl).trans h.c3,h.pi⟩
def PtsAt (w:World) (o:Option Addr) (l:List Qt):Prop:=∀ i a,l[i]? = some a->∃ b off,o=some ⟨b,off,none⟩/\PtC w b (off+i * 4) a
theorem PtsAt.below {w w':World} {o:Option Addr} {l:List Qt} {n:Nat} (h:PtsAt w o l) (hb:Below n w w') (hn:w.heap.size<=n):PtsAt w' o l:=fun i a ha=>by
 obtain ⟨b,off,h1,h2⟩:=h i a ha
 exact ⟨b,off,h1,h2.below hb hn⟩
def FirstF (aB aS aZ:Addr) (ef:Qt->Nat) (w:World) (l:List Qt) (e:Ending) (W:World):Prop:=
 ((∀ y ∈ l,ef y=0)/\e=.returned .nilIface)\/
 (∃ q x r pb,l=q++x :: r/\(∀ y ∈ q,ef y=0)/\ef x≠0/\w.heap.size<=pb/\e=.returned (.iface 143 (.pointer (some ⟨pb,0,none⟩)))/\W.cell? ⟨pb,0,none⟩=some (.int .i64 q.length)/\W.cell? ⟨pb,1,none⟩=some (er aB aS aZ (ef x)))
theorem all_take {ef:Qt->Nat} {l:List Qt} {k:Nat} {a:Qt} (h:∀ y ∈ l.take k,ef y=0) (ha:l[k]? = some a) (h0:ef a=0):∀ y ∈ l.take (k+1),ef y=0:=fun y hy=>by
 rw [List.take_add_one,ha] at hy
 rcases List.mem_append.1 hy with hy | hy
 ·exact h y hy
 ·simp at hy
  subst hy
  exact h0
theorem split_at {l:List Qt} {k:Nat} {a:Qt} (ha:l[k]? = some a):l=l.take k++a :: l.drop (k+1)/\(l.take k).length=k:=by
 obtain ⟨hk,e⟩:=List.getElem?_eq_some_iff.1 ha
 refine ⟨?_,by rw [List.length_take];omega⟩
 rw [<- e,List.getElem_cons_drop,List.take_append_drop]
theorem firstRight (aB aS aZ:Addr) (l:List Qt) (o:Option Addr) (cap:Nat) (w:World) (hl:l.length<=1000) (h:PtsAt w o l) (hE:E3 aB aS aZ w) :
  Calls Tryz.prog 240 #[.slice o l.length cap,.func (.func 241) #[] #[]] w fun e W=>FirstF aB aS aZ chkP w l e W/\Below w.heap.size w W:=by
 go_enter Tryz.func240,Tryz.ntmps240
 go_wp2
 go_loopw [10] (fun y wr=>∃ k:Nat,k<=l.length/\y=.int .i64 k/\(∀ y ∈ l.take k,chkP y=0)/\Below w.heap.size w wr) (fun y _=>l.length - (intOf y).toNat)
 case atStart=>exact ⟨0,Nat.zero_le _,rfl,by simp,Below.refl _ _⟩
 case round=>
  obtain ⟨k,hk,rfl,hall,hb⟩:=hrel
  have HA:Hid (∀ y ∈ l.take k,chkP y=0):=hall
  clear hall
  by_cases hlt:k<l.length
  ·have hlt':(k:Int)<(l.length:Int):=by omega
   obtain ⟨a,ha⟩:∃ a,l[k]? = some a:=⟨_,List.getElem?_eq_getElem hlt⟩
   obtain ⟨b,off,ho,hp⟩:=h k a ha
   subst ho
   obtain ⟨c0,c1,c2,c3,hpi⟩:=hp.below hb Nat.le.refl
   have HL:Hid (l[k]? = some a):=ha
   have hbx:=hb.alloc hb.size (.cells #[.int .i64 a.xn,.int .i64 a.xd,.int .i64 a.yn,.int .i64 a.yd] 121)
   have HK:=checkRight_any aB aS aZ a _ hpi (hE.below hbx Nat.le.refl)
   clear ha
   by_cases hx:chkP a=0
   ·rw [hx] at HK
    have HX:Hid (chkP a=0):=hx
    clear hx
    go_wp2_with (go_at_call 241;refine HK.mono ?_;rintro e w1 ⟨rfl,b1⟩;simp only [er_0])
    go_roundw
    case rel=>exact ⟨k+1,by omega,by go_num,all_take HA.out HL.out HX.out,hbx.trans (b1.mono (by have:=hbx.size;omega))⟩
    case measure=>simp [intOf];omega
   ·obtain ⟨ad,hea⟩:=er_cases aB aS aZ (show chkP a=2\/chkP a=3 by have:=chkP_cases a;omega)
    have HX:Hid (¬ chkP a=0):=hx
    have HC:Hid (er aB aS aZ (chkP a)=.iface 409 (.pointer (some ad))):=hea
    rw [hea] at HK
    clear hx hea
    go_wp2_with (go_at_call 241;refine HK.mono ?_;rintro e w1 ⟨rfl,b1⟩)
    have hb1:=hbx.trans (b1.mono (by have:=hbx.size;omega))
    go_ret
    obtain ⟨e1,e2⟩:=split_at HL.out
    refine ⟨.inr ⟨_,_,_,w1.heap.size,e1,HA.out,HX.out,hb1.size,rfl,?_,?_⟩,hb1.alloc hb1.size _⟩
    ·rw [e2];simp
    ·rw [HC.out];simp
  ·obtain rfl:k=l.length:=by omega
   go_wp2
   go_ret
   have hall:=HA.out
   rw [List.take_length] at hall
   exact ⟨.inl ⟨hall,rfl⟩,hb⟩
theorem firstSize (aB aS aZ:Addr) (l:List Qt) (o:Option Addr) (cap:Nat) (w:World) (hl:l.length<=1000) (h:PtsAt w o l) (hE:E3 aB aS aZ w) (hr:∀ a ∈ l,chkP a=0) :
  Calls Tryz.prog 240 #[.slice o l.length cap,.func (.func 211) #[] #[]] w fun e W=>FirstF aB aS aZ bigP w l e W/\Below w.heap.size w W:=by
 go_enter Tryz.func240,Tryz.ntmps240
 go_wp2
 go_loopw [10] (fun y wr=>∃ k:Nat,k<=l.length/\y=.int .i64 k/\(∀ y ∈ l.take k,bigP y=0)/\Below w.heap.size w wr) (fun y _=>l.length - (intOf y).toNat)
 case atStart=>exact ⟨0,Nat.zero_le _,rfl,by simp,Below.refl _ _⟩
 case round=>
  obtain ⟨k,hk,rfl,hall,hb⟩:=hrel
  have HA:Hid (∀ y ∈ l.take k,bigP y=0):=hall
  clear hall
  by_cases hlt:k<l.length
  ·have hlt':(k:Int)<(l.length:Int):=by omega
   obtain ⟨a,ha⟩:∃ a,l[k]? = some a:=⟨_,List.getElem?_eq_getElem hlt⟩
   obtain ⟨b,off,ho,hp⟩:=h k a ha
   subst ho
   obtain ⟨c0,c1,c2,c3,hpi⟩:=hp.below hb Nat.le.refl
   have HL:Hid (l[k]? = some a):=ha
   have hbx:=hb.alloc hb.size (.cells #[.int .i64 a.xn,.int .i64 a.xd,.int .i64 a.yn,.int .i64 a.yd] 121)
   have HK:=checkSize_any aB aS aZ a _ hpi (chkP_pos (hr a (List.mem_of_getElem? ha))) (hE.below hbx Nat.le.refl)
   clear ha
   by_cases hx:bigP a=0
   ·rw [hx] at HK
    have HX:Hid (bigP a=0):=hx
    clear hx
    go_wp2_with (go_at_call 211;refine HK.mono ?_;rintro e w1 ⟨rfl,b1⟩;simp only [er_0])
    go_roundw
    case rel=>exact ⟨k+1,by omega,by go_num,all_take HA.out HL.out HX.out,hbx.trans (b1.mono (by have:=hbx.size;omega))⟩
    case measure=>simp [intOf];omega
   ·obtain ⟨ad,hea⟩:=er_cases aB aS aZ (show bigP a=2\/bigP a=3 by have:=bigP_cases a;omega)
    have HX:Hid (¬ bigP a=0):=hx
    have HC:Hid (er aB aS aZ (bigP a)=.iface 409 (.pointer (some ad))):=hea
    rw [hea] at HK
    clear hx hea
    go_wp2_with (go_at_call 211;refine HK.mono ?_;rintro e w1 ⟨rfl,b1⟩)
    have hb1:=hbx.trans (b1.mono (by have:=hbx.size;omega))
    go_ret
    obtain ⟨e1,e2⟩:=split_at HL.out
    refine ⟨.inr ⟨_,_,_,w1.heap.size,e1,HA.out,HX.out,hb1.size,rfl,?_,?_⟩,hb1.alloc hb1.size _⟩
    ·rw [e2];simp
    ·rw [HC.out];simp
  ·obtain rfl:k=l.length:=by omega
   go_wp2
   go_ret
   have hall:=HA.out
   rw [List.take_length] at hall
   exact ⟨.inl ⟨hall,rfl⟩,hb⟩
end
section
open Go.RowKit
set_option maxHeartbeats 4000000
set_option maxRecDepth 20000
theorem FirstF.mono {aB aS aZ:Addr} {ef:Qt->Nat} {w u:World} {l:List Qt} {e:Ending} {W:World} (h:FirstF aB aS aZ ef u l e W) (hs:w.heap.size<=u.heap.size):FirstF aB aS aZ ef w l e W:=by
 rcases h with h | ⟨q,x,r,pb,h1,h2,h3,h4,h5⟩
 ·exact .inl h
 ·exact .inr ⟨q,x,r,pb,h1,h2,h3,Nat.le_trans hs h4,h5⟩
def ChkR (aB aS aZ:Addr) (w:World) (l:List Qt) (e:Ending) (W:World):Prop:=
 (30<l.length/\e=.returned (er aB aS aZ 2))\/(l.length<=30/\(∃ y ∈ l,chkP y≠0)/\FirstF aB aS aZ chkP w l e W)\/(l.length<=30/\(∀ y ∈ l,chkP y=0)/\FirstF aB aS aZ bigP w l e W)
def okSh (l:List Qt):Prop:=l.length<=30/\∀ y ∈ l,errP y=0
def ErrV (v:Value):Prop:=(∃ a,v=.iface 409 (.pointer (some a)))\/(∃ a,v=.iface 143 (.pointer (some a)))
theorem ChkR.plain {aB aS aZ:Addr} {w:World} {l:List Qt} {e:Ending} {W:World} (h:ChkR aB aS aZ w l e W):(okSh l/\e=.returned .nilIface)\/(¬ okSh l/\∃ v,ErrV v/\e=.returned v):=by
 rcases h with ⟨h1,h2⟩ | ⟨h1,⟨y,hy,hy2⟩,h3⟩ | ⟨h1,h2,h3⟩
 ·exact .inr ⟨fun h=>by have:=h.1;omega,_,.inl ⟨aB,rfl⟩,h2⟩
 ·have hn:¬ okSh l:=fun h=>hy2 (errP_zero.1 (h.2 y hy)).1
  rcases h3 with ⟨h4, -⟩ | ⟨q,x,r,pb, -, -, -, -,h5, -⟩
  ·exact absurd (h4 y hy) hy2
  ·exact .inr ⟨hn,_,.inr ⟨_,rfl⟩,h5⟩
 ·rcases h3 with ⟨h4,h5⟩ | ⟨q,x,r,pb,e1, -,h4, -,h5, -⟩
  ·exact .inl ⟨⟨h1,fun y hy=>errP_zero.2 ⟨h2 y hy,h4 y hy⟩⟩,h5⟩
  ·exact .inr ⟨fun h=>h4 (errP_zero.1 (h.2 x (by rw [e1];simp))).2,_,.inr ⟨_,rfl⟩,h5⟩
theorem Check_sh (aB aS aZ:Addr) (l:List Qt) (o:Option Addr) (cap:Nat) (w:World) (h:PtsAt w o l) (hE:E3 aB aS aZ w) :
  Calls Tryz.prog 194 #[.agg #[.slice o l.length cap]] w fun e W=>ChkR aB aS aZ w l e W/\Below w.heap.size w W:=by
 have hw:=mbelow w (.cells #[.slice o l.length cap] 43)
 have hE1:=(hE.below hw Nat.le.refl).b
 by_cases h30:30<l.length
 ·have h30':30<(l.length:Int):=by omega
  go_enter Tryz.func194,Tryz.ntmps194
  go_wp2
  go_ret
  exact ⟨.inl ⟨h30,rfl⟩,hw⟩
 ·have h30':¬ 30<(l.length:Int):=by omega
  have F1:=firstRight aB aS aZ l o cap _ (by omega) (h.below hw Nat.le.refl) (hE.below hw Nat.le.refl)
  by_cases hr:∀ y ∈ l,chkP y=0
  ·have F2:=fun V (hv:Below w.heap.size w V)=>firstSize aB aS aZ l o cap V (by omega) (h.below hv Nat.le.refl) (hE.below hv Nat.le.refl) hr
   have HR:Hid (∀ y ∈ l,chkP y=0):=hr
   clear hr
   go_enter Tryz.func194,Tryz.ntmps194
   go_wp2_with (first | (go_at_call 240;refine (F2 w1 k1).mono ?_;rintro e w2 ⟨hf2,b2⟩;obtain ⟨v2,rfl⟩:∃ v,e=.returned v:=(by rcases hf2 with ⟨-,rfl⟩ | ⟨_,_,_,_, -, -, -, -,rfl, -⟩;exact ⟨_,rfl⟩;exact ⟨_,rfl⟩)) | (go_at_call 240;refine F1.mono ?_;rintro e w1 ⟨hf1,b1⟩;have he:e=.returned .nilIface:=(by rcases hf1 with ⟨-,h2⟩ | ⟨q,x,r,pb,e1, -,h4, -⟩;exact h2;exact absurd (HR.out x (by rw [e1];simp)) h4);subst he;clear hf1;have k1:=bel_more hw b1;have cb:=(b1.cell (p:=⟨w.heap.size,0,none⟩) (by simp)).trans (show (w.alloc (.cells #[.slice o l.length cap] 43)).cell? ⟨w.heap.size,0,none⟩=some (.slice o l.length cap) by simp)))
   go_ret
   exact ⟨.inr (.inr ⟨by omega,HR.out,hf2.mono k1.size⟩),bel_more k1 b2⟩
  ·have hex:∃ y ∈ l,chkP y≠0:=by
    apply Classical.byContradiction
    intro hn
    refine hr fun y hy=>?_
    apply Classical.byContradiction
    exact fun h0=>hn ⟨y,hy,h0⟩
   have HX:Hid (∃ y ∈ l,chkP y≠0):=hex
   clear hr hex
   go_enter Tryz.func194,Tryz.ntmps194
   go_wp2_with (go_at_call 240;refine F1.mono ?_;rintro e w1 ⟨hf1,b1⟩;have he:∃ a,e=.returned (.iface 143 (.pointer (some a))):=(by rcases hf1 with ⟨h2, -⟩ | ⟨q,x,r,pb, -, -, -, -,rfl, -⟩;exact absurd HX.out (fun ⟨y,hy,h0⟩=>h0 (h2 y hy));exact ⟨_,rfl⟩);obtain ⟨ad,rfl⟩:=he)
   go_ret
   exact ⟨.inr (.inl ⟨by omega,HX.out,hf1.mono hw.size⟩),bel_more hw b1⟩
end
section
open Go.RowKit Go.Shelf
attribute [local go_sem] Oper.semAt_some
theorem cell_onew (W:World) (v:Value) (t:TypeId):(W.alloc (.cells #[v] t)).cell? ⟨W.heap.size,0,none⟩=some v/\(W.alloc (.cells #[v] t)).frozen? ⟨W.heap.size,0,none⟩=false:=⟨by simp,by simp⟩
end
section
open Go.RowKit
set_option maxHeartbeats 4000000
set_option maxRecDepth 20000
def sqL (n:Int):List Qt:=[⟨0,1,0,1⟩,⟨n,1,0,1⟩,⟨n,1,n,1⟩,⟨0,1,n,1⟩]
theorem i64_small {n:Int} (h1 : -1000<=n) (h2:n<=1000):I64 n:=⟨by omega,by omega⟩
theorem pts_four {w:World} {b:Nat} {a0 a1 a2 a3:Qt} {t:TypeId} {f:Nat × Nat} (h:w.heap[b]? = some (.cells #[.int .i64 a0.xn,.int .i64 a0.xd,.int .i64 a0.yn,.int .i64 a0.yd,.int .i64 a1.xn,.int .i64 a1.xd,.int .i64 a1.yn,.int .i64 a1.yd,.int .i64 a2.xn,.int .i64 a2.xd,.int .i64 a2.yn,.int .i64 a2.yd,.int .i64 a3.xn,.int .i64 a3.xd,.int .i64 a3.yn,.int .i64 a3.yd] t f))
  (h0:PI a0) (h1:PI a1) (h2:PI a2) (h3:PI a3):PtsAt w (some ⟨b,0,none⟩) [a0,a1,a2,a3]:=by
 have key:∀ k v,#[Value.int .i64 a0.xn,.int .i64 a0.xd,.int .i64 a0.yn,.int .i64 a0.yd,.int .i64 a1.xn,.int .i64 a1.xd,.int .i64 a1.yn,.int .i64 a1.yd,.int .i64 a2.xn,.int .i64 a2.xd,.int .i64 a2.yn,.int .i64 a2.yd,.int .i64 a3.xn,.int .i64 a3.xd,.int .i64 a3.yn,.int .i64 a3.yd][k]? = some v->w.cell? ⟨b,k,none⟩=some v:=fun k v hv=>by
  simp only [World.cell?,h]
  exact hv
 intro i a ha
 match i,ha with
 | 0,ha=>cases ha;exact ⟨b,0,rfl,key 0 _ rfl,key 1 _ rfl,key 2 _ rfl,key 3 _ rfl,h0⟩
 | 1,ha=>cases ha;exact ⟨b,0,rfl,key 4 _ rfl,key 5 _ rfl,key 6 _ rfl,key 7 _ rfl,h1⟩
 | 2,ha=>cases ha;exact ⟨b,0,rfl,key 8 _ rfl,key 9 _ rfl,key 10 _ rfl,key 11 _ rfl,h2⟩
 | 3,ha=>cases ha;exact ⟨b,0,rfl,key 12 _ rfl,key 13 _ rfl,key 14 _ rfl,key 15 _ rfl,h3⟩
 | (k+4),ha=>simp at ha
theorem square_any (n:Int) (w:World) (h1 : -1000<=n) (h2:n<=1000) :
  Calls Tryz.prog 31 #[.int .i64 n] w fun e W=>∃ b cap,e=.returned (.slice (some ⟨b,0,none⟩) 4 cap)/\PtsAt W (some ⟨b,0,none⟩) (sqL n)/\Below w.heap.size w W:=by
 go_enter Tryz.func31,Tryz.ntmps31
 go_wp2
 go_ret
 have hn:=World.alloc_heap_new ((w.alloc (.cells #[.int .i64 0,.int .i64 1] 52)).alloc (.cells #[.int .i64 n,.int .i64 1] 52)) (.cells #[.int .i64 0,.int .i64 1,.int .i64 0,.int .i64 1,.int .i64 n,.int .i64 1,.int .i64 0,.int .i64 1,.int .i64 n,.int .i64 1,.int .i64 n,.int .i64 1,.int .i64 0,.int .i64 1,.int .i64 n,.int .i64 1] 121)
 rw [show ((w.alloc (.cells #[.int .i64 0,.int .i64 1] 52)).alloc (.cells #[.int .i64 n,.int .i64 1] 52)).heap.size=w.heap.size+1+1 from by simp] at hn
 have hi:=i64_small h1 h2
 have z0:=i64_small (n:=0) (by decide) (by decide)
 have z1:=i64_small (n:=1) (by decide) (by decide)
 exact ⟨w.heap.size+1+1,4,rfl,pts_four (a0:=⟨0,1,0,1⟩) (a1:=⟨n,1,0,1⟩) (a2:=⟨n,1,n,1⟩) (a3:=⟨0,1,n,1⟩) hn ⟨z0,z1,z0,z1⟩ ⟨hi,z1,z0,z1⟩ ⟨hi,z1,hi,z1⟩ ⟨z0,z1,hi,z1⟩,(((Below.refl _ _).alloc Nat.le.refl _).alloc (by simp) _).alloc (by simp;omega) _⟩
end
section
open Go.RowKit
def cellsP:List Qt->List Value
 | []=>[]
 | a :: r=>.int .i64 a.xn :: .int .i64 a.xd :: .int .i64 a.yn :: .int .i64 a.yd :: cellsP r
theorem cellsP_len:∀ l:List Qt,(cellsP l).length=l.length * 4
 | []=>rfl
 | x :: r=>by simp [cellsP,cellsP_len r];omega
theorem cellsP_app:∀ l m:List Qt,cellsP (l++m)=cellsP l++cellsP m
 | [],_=>rfl
 | x :: r,m=>by simp [cellsP,cellsP_app r m]
theorem cellsP_inv:∀ (l:List Qt) (j:Nat) (u:Value),(cellsP l)[j]? = some u->∃ i x,l[i]? = some x/\((j=i * 4/\u=.int .i64 x.xn)\/(j=i * 4+1/\u=.int .i64 x.xd)\/(j=i * 4+2/\u=.int .i64 x.yn)\/(j=i * 4+3/\u=.int .i64 x.yd))
 | [],j,u,h=>by simp [cellsP] at h
 | x :: r,0,u,h=>by simp [cellsP] at h;exact ⟨0,x,rfl,.inl ⟨rfl,h.symm⟩⟩
 | x :: r,1,u,h=>by simp [cellsP] at h;exact ⟨0,x,rfl,.inr (.inl ⟨rfl,h.symm⟩)⟩
 | x :: r,2,u,h=>by simp [cellsP] at h;exact ⟨0,x,rfl,.inr (.inr (.inl ⟨rfl,h.symm⟩))⟩
 | x :: r,3,u,h=>by simp [cellsP] at h;exact ⟨0,x,rfl,.inr (.inr (.inr ⟨rfl,h.symm⟩))⟩
 | x :: r,j+4,u,h=>by
  have h':(cellsP r)[j]? = some u:=by simpa [cellsP] using h
  obtain ⟨i,y,h1,h2⟩:=cellsP_inv r j u h'
  refine ⟨i+1,y,by simpa using h1,?_⟩
  rcases h2 with ⟨rfl,h3⟩ | ⟨rfl,h3⟩ | ⟨rfl,h3⟩ | ⟨rfl,h3⟩
  ·exact .inl ⟨by omega,h3⟩
  ·exact .inr (.inl ⟨by omega,h3⟩)
  ·exact .inr (.inr (.inl ⟨by omega,h3⟩))
  ·exact .inr (.inr (.inr ⟨by omega,h3⟩))
theorem cellsP_get:∀ (l:List Qt) (i:Nat) (x:Qt),l[i]? = some x->(cellsP l)[i * 4]? = some (.int .i64 x.xn)/\(cellsP l)[i * 4+1]? = some (.int .i64 x.xd)/\(cellsP l)[i * 4+2]? = some (.int .i64 x.yn)/\(cellsP l)[i * 4+3]? = some (.int .i64 x.yd)
 | [],i,x,h=>by simp at h
 | y :: r,0,x,h=>by simp at h;subst h;exact ⟨rfl,rfl,rfl,rfl⟩
 | y :: r,i+1,x,h=>by
  have h1:=cellsP_get r i x (by simpa using h)
  rw [show (i+1) * 4=i * 4+4 from by omega]
  simpa [cellsP,Nat.add_right_comm _ 4] using h1
theorem cellsP_one (l:List Qt):∀ u ∈ cellsP l,u.oneCell'=true:=fun u hu=>by
 obtain ⟨j,hj⟩:=List.getElem?_of_mem hu
 obtain ⟨i,x, -,⟨-,rfl⟩ | ⟨-,rfl⟩ | ⟨-,rfl⟩ | ⟨-,rfl⟩⟩:=cellsP_inv l j u hj <;> rfl
theorem addr_add (b off k:Nat):(⟨b,off,none⟩:Addr).add k=⟨b,off+k,none⟩:=by unfold Addr.add;split <;> simp_all
def OwnP (w:World) (base:Nat) (v:Value) (l:List Qt):Prop:=w.ownsRow base 121 4 v l.length (cellsP l)
theorem OwnP.at_ {w:World} {base:Nat} {v:Value} {l:List Qt} (h:OwnP w base v l) (hl:∀ a ∈ l,PI a):∃ o cap,v=.slice o l.length cap/\PtsAt w o l:=by
 rcases h.2 with ⟨rfl,h0⟩ | ⟨g,cap,cur,rfl, -⟩
 ·have:l=[]:=List.length_eq_zero_iff.1 h0
  subst this
  exact ⟨none,0,rfl,fun i a ha=>by simp at ha⟩
 ·refine ⟨_,cap,rfl,fun i a ha=>⟨g,0,rfl,?_⟩⟩
  have hc:∀ j u,(cellsP l)[j]? = some u->w.cell? ⟨g,j,none⟩=some u:=fun j u hj=>by
   have:=World.ownsRow.cells h (g:=g) rfl j u hj
   rw [addr_add,Nat.zero_add] at this
   exact this
  obtain ⟨h0,h1,h2,h3⟩:=cellsP_get l i a ha
  rw [Nat.zero_add]
  exact ⟨hc _ _ h0,hc _ _ h1,hc _ _ h2,hc _ _ h3,hl a (List.mem_of_getElem? ha)⟩
theorem infoPt:(Tryz.prog.info? 121).map (fun i=>(i.zero,i.size,i.bytes))=some (some (.agg #[.int .i64 0,.int .i64 0,.int .i64 0,.int .i64 0]),4,32):=by kernel_rfl
theorem own_ge' {w:World} {base:Nat} {e:TypeId} {size:Nat} {v:Value} {n:Nat} {xs:List Value} (h:w.ownsRow base e size v n xs):∀ k,v.ownBlock=some k->base<=k:=by
 obtain ⟨_,h2⟩:=h
 rcases h2 with ⟨rfl,_⟩ | ⟨g,cap,cur,rfl,hg,_⟩
 ·intro k hk;cases hk
 ·intro k hk
  cases hk
  exact hg
end
section
open Go.RowKit
theorem OwnP.nil (w:World) (base:Nat):OwnP w base (.slice none 0 0) []:=World.ownsRow_nil _ _ _ _
theorem OwnP.app {w:World} {base:Nat} {v:Value} {l m:List Qt} {k:Nat} (h:w.ownsRow base 121 4 v (l.length+k) (cellsP l++cellsP m)) (hk:k=m.length):OwnP w base v (l++m):=by
 unfold OwnP
 rw [cellsP_app,List.length_append,<- hk]
 exact h
end
end Go.Proofs.YtgphclgmmocdhaaGreatDoor

/-
  Parts of the proof.
-/
import Derived.Lib.AppendIntMem
import Derived.Lib.ItoaLen
import Derived.Test.YtgphclgmmocdhaaGreatDoorQu30
namespace Go.Proofs.YtgphclgmmocdhaaGreatDoor
section
open Go.RowKit
def mk (n d:Int):R3:=if d=0 then ⟨0,0,11⟩ else if isBig n=true\/isBig d=true then ⟨0,0,2⟩ else low n d
theorem gPow:Tryz.prog.globalNamed "internal/strconv.uint64pow10" = some 14:=by kernel_rfl
theorem tab_below {w w':World} {B:Nat} (h:Lib.TabIs Tryz.prog w "internal/strconv.uint64pow10" .u64 Lib.pow10Tab) (hb:Below B w w') (hB:w.heap.size<=B):Lib.TabIs Tryz.prog w' "internal/strconv.uint64pow10" .u64 Lib.pow10Tab:=
 var?_below hb gPow (Nat.lt_of_lt_of_le (cell_lt (h.cell gPow 0 (by simp [Lib.pow10Tab]))) hB) h
theorem Itoa_any (n:Int) (w:World) (hn:I64 n) (htab:Lib.TabIs Tryz.prog w "internal/strconv.uint64pow10" .u64 Lib.pow10Tab) :
  Calls Tryz.prog 213 #[.int .i64 n] w fun e w'=>e=.returned (.string ⟨(Lib.itoa n).toArray⟩)/\Below w.heap.size w w':=by
 refine (Tryz.strconv_Itoa n hn.1 hn.2 w htab).mono ?_
 rintro e w' ⟨rfl,k,os,rfl⟩
 exact ⟨rfl,Lib.below_grow _ _ Nat.le.refl k os⟩
end
section
open Go.RowKit Go.Shelf
set_option maxHeartbeats 2000000
theorem NE.below {E:Nat->Addr} {w w':World} (h:NE E w) (hb:Below w.heap.size w w'):NE E w':=by
 obtain ⟨c1,c2,c3,c7,c9,c10,⟨a,sy⟩,⟨a',rg⟩,tab,blk,ne⟩:=h
 have C:=fun {x:Addr} {v:Value} (hx:w.cell? x=some v)=>(hb.cell (cell_lt hx)).trans hx
 refine ⟨C c1,C c2,C c3,C c7,C c9,C c10,⟨a,C sy⟩,⟨a',C rg⟩,?_,fun k h1 h2=>?_,ne⟩
 ·exact tab_below tab hb Nat.le.refl
 ·obtain ⟨c,t,hc⟩:=blk k h1 h2
  exact ⟨c,t,(hb.block _ (blk_lt hc)).trans hc⟩
theorem readLevel_any {E:Nat->Addr} {w:World} (h:NE E w) (s:Bs) (hs:s.length<=1000000) :
  Calls Tryz.prog 166 #[bV s] w fun e w'=>e=.returned (.int .i64 (lvM s))/\Below w.heap.size w w':=by
 have hsz:(⟨s.toArray⟩:ByteArray).size<=1000000:=hs
 have hls:(⟨s.toArray⟩:ByteArray).data.toList=s:=rfl
 unfold lvM
 cases ha:Lib.atoiAll s with
 | «syntax»=>
  obtain ⟨a,sy⟩:=h.sy
  have AT:=Tryz.strconv_Atoi_syntax ⟨s.toArray⟩ (by omega) (by rw [hls];exact ha) (eV a) w sy (.inr ⟨_,_,rfl⟩)
  clear h sy ha
  go_enter Tryz.func166,Tryz.ntmps166
  go_wp2_with (go_at_call 212;refine AT.mono ?_;rintro e w1 ⟨nb,rfl, -, -,b1⟩)
  go_ret
  exact ⟨rfl,b1⟩
 | range=>
  obtain ⟨a,rg⟩:=h.rg
  have AT:=Tryz.strconv_Atoi_range ⟨s.toArray⟩ (by omega) (by rw [hls];exact ha) (eV a) w rg (.inr ⟨_,_,rfl⟩)
  clear h rg ha
  go_enter Tryz.func166,Tryz.ntmps166
  go_wp2_with (go_at_call 212;refine AT.mono ?_;rintro e w1 ⟨nb,rfl, -, -,b1⟩)
  go_ret
  exact ⟨rfl,b1⟩
 | ok v=>
  have AT:Calls Tryz.prog 212 #[.string ⟨s.toArray⟩] w fun e w'=>e=.returned (.tuple #[.int .i64 v,.nilIface])/\Below w.heap.size w w':=by
   refine (Tryz.strconv_Atoi_ok ⟨s.toArray⟩ (by omega) v (by rw [hls];exact ha) w).mono ?_
   rintro e w1 ⟨rfl,rfl | ⟨t,rfl⟩⟩
   ·exact ⟨rfl,Below.refl _ _⟩
   ·exact ⟨rfl,rfl,rfl,rfl,by rw [Lib.bytesWorld_size];omega,fun j hj=>Lib.bytesWorld_at_old w _ _ j hj⟩
  clear ha
  dsimp only
  by_cases h0:v<0
  ·rw [if_neg (by omega)]
   go_enter Tryz.func166,Tryz.ntmps166
   go_wp2_with (go_at_call 212;refine AT.mono ?_;rintro e w1 ⟨rfl,b1⟩)
   go_ret
   exact ⟨rfl,b1⟩
  ·by_cases h9:999<v
   ·rw [if_neg (by omega)]
    go_enter Tryz.func166,Tryz.ntmps166
    go_wp2_with (go_at_call 212;refine AT.mono ?_;rintro e w1 ⟨rfl,b1⟩)
    go_ret
    exact ⟨rfl,b1⟩
   ·have IT:=fun V (hV:NE E V)=>Itoa_any v V ⟨by omega,by omega⟩ hV.tab
    have HN:Hid (NE E w):=h
    clear h
    by_cases hi:Lib.itoa v=s
    ·rw [if_pos ⟨by omega,by omega,hi⟩]
     rw [hi] at IT
     go_enter Tryz.func166,Tryz.ntmps166
     go_wp2_with (first | (go_at_call 212;refine AT.mono ?_;rintro e w1 ⟨rfl,b1⟩;have I1:=IT w1 (HN.out.below b1)) | (go_at_call 213;refine I1.mono ?_;rintro e w2 ⟨rfl,b2⟩))
     go_ret
     exact ⟨rfl,mbel b1 b2⟩
    ·rw [if_neg (fun h=>hi h.2.2)]
     obtain ⟨t,ht⟩:∃ t,Lib.itoa v=t:=⟨_,rfl⟩
     rw [ht] at IT
     have hq:=ba_toL t s
     have hq1:(t==s)=false:=by rw [<- ht];simpa using hi
     rw [hq1] at hq
     clear hi ht
     go_enter Tryz.func166,Tryz.ntmps166
     go_wp2_with (first | (go_at_call 212;refine AT.mono ?_;rintro e w1 ⟨rfl,b1⟩;have I1:=IT w1 (HN.out.below b1)) | (go_at_call 213;refine I1.mono ?_;rintro e w2 ⟨rfl,b2⟩))
     go_ret
     exact ⟨rfl,mbel b1 b2⟩
end
section
open Go.RowKit Go.Shelf
set_option maxHeartbeats 8000000
set_option maxRecDepth 20000
theorem NE.e3 {E:Nat->Addr} {w:World} (h:NE E w):E3 (E 2) (E 3) (E 2) w:=⟨h.c2,h.c3,rfl⟩
theorem NE.e4 {E:Nat->Addr} {w:World} (h:NE E w):E4 (E 1) (E 2) (E 3) w:=⟨h.e3,h.c1⟩
theorem attD_atM (M:Dm) (n:Int) (nm:Bs):attD M n nm=atM M n nm:=rfl
def SzD (M:Dm):Prop:=∀ n e,M n=some e->∀ a ∈ e.ats,a.2.length<=200
theorem atM_len {M:Dm} (h:SzD M) {n:Int} {nm s:Bs} (ha:atM M n nm=some s):s.length<=200:=by
 unfold atM at ha
 cases hm:M n with
 | none=>rw [hm] at ha;cases ha
 | some e=>
  rw [hm] at ha
  simp only [atOf,Option.map_eq_some_iff] at ha
  obtain ⟨a,h1,h2⟩:=ha
  have:=h n e hm a (List.mem_of_find?_eq_some h1)
  rw [h2] at this
  exact this
theorem valM_len {M:Dm} (h:SzD M) (n:Int) (nm:Bs):(valM M n nm).length<=200:=by
 unfold valM
 cases ha:atM M n nm with
 | none=>simp
 | some s=>exact atM_len h ha
section
variable {E:Nat->Addr} {B:Nat} {tg:Tags} {W:World} {DB MB:Nat} {p:Int->Option Nat} {M:Dm} {nx c:Nat}
theorem fracOf_any (hN:NE E W) (hd:DocW B tg W DB MB p M nx c) (hz:SzD M) (WB:Nat) (hw:W.cell? ⟨WB,0,none⟩=some (.pointer (some ⟨DB,0,none⟩))) (n:Int) (hn:Wf64 n) (nm:Bs) :
  Calls Tryz.prog 167 #[.pointer (some ⟨WB,0,none⟩),.int .i64 n,bV nm] W fun e w'=>e=.returned (.tuple #[.agg #[.int .i64 (fracM M n nm).n,.int .i64 (fracM M n nm).d],er4 (E 1) (E 2) (E 3) (E 2) (fracM M n nm).c])/\Below W.heap.size W w':=by
 have b0:=mal W (.cells #[.int .i64 0,.int .i64 0] 52)
 have T0:=Two.new W (.int .i64 0) (.int .i64 0) 52
 have AT:=Attr_doc (hd.below b0) n hn nm
 have hw0:=(b0.cell (cell_lt hw)).trans hw
 rw [attD_atM] at AT
 unfold fracM
 cases ha:atM M n nm with
 | none=>
  rw [ha] at AT
  clear hd ha
  go_enter Tryz.func167,Tryz.ntmps167
  go_wp2_with (go_at_call 28;refine AT.mono ?_;rintro e w1 ⟨rfl,b1⟩;obtain ⟨t0,t1,f0,f1⟩:=T0.below b1 Nat.le.refl)
  refine bodyPost_ret (v:=.tuple #[.agg #[.int .i64 0,.int .i64 1],.nilIface]) (by simp [results,Tryz.results167,go_sem,t0,t1]) rfl ⟨rfl,?_⟩
  exact ((mbel b0 b1).setCell Nat.le.refl _).setCell Nat.le.refl _
 | some s=>
  rw [ha] at AT
  have hs:=atM_len hz ha
  have hsz:(⟨s.toArray⟩:ByteArray).size<=200:=hs
  have RD:∀ V,NE E V->Calls Tryz.prog 214 #[bV s] V fun e w'=>e=.returned (.tuple #[.agg #[.int .i64 (rd s).n,.int .i64 (rd s).d],er4 (E 1) (E 2) (E 3) (E 2) (rd s).c])/\Below V.heap.size V w':=fun V hV=>ReadF_any (E 1) (E 2) (E 3) (E 2) ⟨s.toArray⟩ V hV.e3 hV.c1 (by omega)
  have HN:Hid (NE E W):=hN
  dsimp only
  generalize rd s=x at RD ⊢
  obtain ⟨ev,hev⟩:∃ v,er4 (E 1) (E 2) (E 3) (E 2) x.c=v:=⟨_,rfl⟩
  simp only [hev] at RD ⊢
  clear hd ha hN hev
  go_enter Tryz.func167,Tryz.ntmps167
  go_wp2_with (first | (go_at_call 28;refine AT.mono ?_;rintro e w1 ⟨rfl,b1⟩;have R1:=RD w1 (HN.out.below (mbel b0 b1))) | (go_at_call 214;refine R1.mono ?_;rintro e w2 ⟨rfl,b2⟩;obtain ⟨t0,t1,f0,f1⟩:=T0.below (mbel b1 b2) Nat.le.refl))
  refine bodyPost_ret (v:=.tuple #[.agg #[.int .i64 x.n,.int .i64 x.d],ev]) (by simp [results,Tryz.results167,go_sem,t0,t1]) rfl ⟨rfl,?_⟩
  exact ((mbel b0 (mbel b1 b2)).setCell Nat.le.refl _).setCell Nat.le.refl _
theorem Blk.all24 {w:World} {R:Nat} {v0 v1 v2 v3 v4 v5 v6 v7 v8 v9 v10 v11:Value} {t:TypeId} (h:Blk w R #[v0,v1,v2,v3,v4,v5,v6,v7,v8,v9,v10,v11] t) :
  w.cell? ⟨R,0,none⟩=some v0/\w.cell? ⟨R,1,none⟩=some v1/\w.cell? ⟨R,2,none⟩=some v2/\w.cell? ⟨R,3,none⟩=some v3/\w.cell? ⟨R,4,none⟩=some v4/\w.cell? ⟨R,5,none⟩=some v5/\w.cell? ⟨R,6,none⟩=some v6/\w.cell? ⟨R,7,none⟩=some v7/\w.cell? ⟨R,8,none⟩=some v8/\w.cell? ⟨R,9,none⟩=some v9/\w.cell? ⟨R,10,none⟩=some v10/\w.cell? ⟨R,11,none⟩=some v11/\
  w.frozen? ⟨R,0,none⟩=false/\w.frozen? ⟨R,1,none⟩=false/\w.frozen? ⟨R,2,none⟩=false/\w.frozen? ⟨R,3,none⟩=false/\w.frozen? ⟨R,4,none⟩=false/\w.frozen? ⟨R,5,none⟩=false/\w.frozen? ⟨R,6,none⟩=false/\w.frozen? ⟨R,7,none⟩=false/\w.frozen? ⟨R,8,none⟩=false/\w.frozen? ⟨R,9,none⟩=false/\w.frozen? ⟨R,10,none⟩=false/\w.frozen? ⟨R,11,none⟩=false:=
 ⟨h.cell 0 _ rfl,h.cell 1 _ rfl,h.cell 2 _ rfl,h.cell 3 _ rfl,h.cell 4 _ rfl,h.cell 5 _ rfl,h.cell 6 _ rfl,h.cell 7 _ rfl,h.cell 8 _ rfl,h.cell 9 _ rfl,h.cell 10 _ rfl,h.cell 11 _ rfl,h.froz 0 _ rfl,h.froz 1 _ rfl,h.froz 2 _ rfl,h.froz 3 _ rfl,h.froz 4 _ rfl,h.froz 5 _ rfl,h.froz 6 _ rfl,h.froz 7 _ rfl,h.froz 8 _ rfl,h.froz 9 _ rfl,h.froz 10 _ rfl,h.froz 11 _ rfl⟩
abbrev plA (n:Int) (q:Value) (m:Mv):Array Value:=#[.int .i64 n,q,.int .i64 m.a.n,.int .i64 m.a.d,.int .i64 m.b.n,.int .i64 m.b.d,.int .i64 m.c.n,.int .i64 m.c.d,.int .i64 m.d.n,.int .i64 m.d.d,.int .i64 m.e.n,.int .i64 m.e.d,.int .i64 m.f.n,.int .i64 m.f.d]
def MvR (E:Nat->Addr) (x:Except Nat Mv) (e:Ending) (w':World):Prop:=match x with
 | .ok m=>e=.returned (.tuple #[mv m,.nilIface])
 | .error c=>∃ v,e=.returned (.tuple #[mv .zero,v])/\ErC E c v w'
theorem kdR_cases (kd:Kd) (ws:List ByteArray):(kdR kd ws).2=0\/(kdR kd ws).2=1\/(kdR kd ws).2=2\/(kdR kd ws).2=3:=by
 have hr:∀ a:ByteArray,rdC a=0\/rdC a=1\/rdC a=2\/rdC a=3:=fun a=>by
  unfold rdC
  rcases rd_cases a.data.toList with h | ⟨h, -⟩
  ·exact .inl h
  ·exact .inr h
 have h2:∀ (mk:Fr->Fr->Mv) (a b:ByteArray),(rd2 mk a b).2=0\/(rd2 mk a b).2=1\/(rd2 mk a b).2=2\/(rd2 mk a b).2=3:=fun mk a b=>by
  unfold rd2
  split
  ·exact hr a
  ·split
   ·exact hr b
   ·exact .inl rfl
 unfold kdR
 split
 ·exact h2 _ _ _
 ·exact h2 _ _ _
 ·unfold turnR
  split
  ·exact .inl rfl
  ·split
   ·exact .inl rfl
   ·split
    ·exact .inl rfl
    ·split
     ·exact .inl rfl
     ·exact .inr (.inl rfl)
 ·unfold rd1
  split
  ·exact hr _
  ·exact .inl rfl
 ·exact .inr (.inl rfl)
theorem readL_cases:∀ (f:Nat) (ws:List ByteArray) (acc:List Mv),(readL f ws acc).2=0\/(readL f ws acc).2=1\/(readL f ws acc).2=2\/(readL f ws acc).2=3
 | _,[],_=>.inl (by simp [readL])
 | 0,_ :: _,_=>.inr (.inl rfl)
 | f+1,k :: ws,acc=>by
  unfold readL
  cases hk:kdOf k with
  | none=>exact .inr (.inl rfl)
  | some kd=>
   dsimp only
   split
   ·exact .inr (.inl rfl)
   ·split
    ·exact readL_cases f _ _
    ·exact kdR_cases kd ws
theorem readR_cases (s:ByteArray):(readR s).2=0\/(readR s).2=1\/(readR s).2=2\/(readR s).2=3:=by
 unfold readR
 split
 ·rcases foldR_two (listR s).1.reverse .one with h | h
  ·exact .inl h
  ·rw [h];exact .inr (.inr (.inl rfl))
 ·unfold listR
  split
  ·exact .inl rfl
  ·exact readL_cases _ _ _
theorem readR_ok {s:ByteArray} (h:(readR s).2=0):(readR s).1.ok:=by
 unfold readR at h ⊢
 by_cases hl:(listR s).2=0
 ·rw [if_pos hl] at h ⊢
  refine foldR_ok _ _ one_ok (fun n hn=>?_) h
  unfold listR at hl hn
  by_cases h0:s.size=0
  ·rw [if_pos h0] at hn;simp at hn
  ·rw [if_neg h0] at hl hn
   exact readL_ok _ _ _ (by simp) hl n (List.mem_reverse.1 hn)
 ·rw [if_neg hl] at h;exact absurd h hl
theorem er0_eV {E:Nat->Addr} {c:Nat} (h:c=1\/c=2\/c=3):er0 (E 1) (E 2) (E 3) c=eV (E c):=by
 rcases h with rfl | rfl | rfl <;> rfl
theorem moveOf_any (hN:NE E W) (hd:DocW B tg W DB MB p M nx c) (hz:SzD M) (WB:Nat) (hw:W.cell? ⟨WB,0,none⟩=some (.pointer (some ⟨DB,0,none⟩))) (n:Int) (hn:Wf64 n) (PB:Nat) (k:Int) (q:Value) (m:Mv) (hm:m.ok) (hp:W.heap[PB]? = some (.cells (plA k q m) 116)) :
  Calls Tryz.prog 84 #[.pointer (some ⟨WB,0,none⟩),.int .i64 n,.pointer (some ⟨PB,0,none⟩)] W fun e w'=>MvR E (moveM M n m) e w'/\Below W.heap.size W w':=by
 have b0:=mal W (.cells #[.int .i64 0,.int .i64 0,.int .i64 0,.int .i64 0,.int .i64 0,.int .i64 0,.int .i64 0,.int .i64 0,.int .i64 0,.int .i64 0,.int .i64 0,.int .i64 0] 113)
 have K0:=Blk.new W #[.int .i64 0,.int .i64 0,.int .i64 0,.int .i64 0,.int .i64 0,.int .i64 0,.int .i64 0,.int .i64 0,.int .i64 0,.int .i64 0,.int .i64 0,.int .i64 0] 113
 have AT:=Attr_doc (hd.below b0) n hn kMove
 have hw0:=(b0.cell (cell_lt hw)).trans hw
 rw [attD_atM] at AT
 have hl:=valM_len hz n kMove
 unfold moveM
 unfold valM at hl ⊢
 generalize (atM M n kMove).getD []=s at AT hl ⊢
 generalize (atM M n kMove).isSome=bo at AT
 have hsz:(⟨s.toArray⟩:ByteArray).size<=200:=hl
 have RD:=fun V (hV:NE E V)=>Read_gen (aT:=E 1) (aB:=E 2) (aS:=E 3) ⟨s.toArray⟩ (by omega) V hV.e4
 have HN:Hid (NE E W):=hN
 have hrc:=readR_cases ⟨s.toArray⟩
 have hro:(readR ⟨s.toArray⟩).2=0->(readR ⟨s.toArray⟩).1.ok:=readR_ok
 obtain ⟨rm,rc,hr⟩:∃ a b,readR ⟨s.toArray⟩=(a,b):=⟨_,_,rfl⟩
 simp only [hr] at RD hrc hro ⊢
 clear hr hN hd hl
 by_cases hc:rc=0
 ·subst hc
  have hro:=hro rfl
  have hpl:=blk_lt hp
  rw [if_neg (by simp)]
  simp only [show er0 (E 1) (E 2) (E 3) 0=.nilIface from rfl] at RD
  by_cases ht:(thenS rm m).2=0
  ·rw [if_pos ht]
   have TH:=fun V (hV:NE E V)=>Then_ok (aB:=E 2) (aS:=E 3) (aZ:=E 2) (ok_all hro) (ok_all hm) (thenR_ok hro hm (pair_eq ht)) V hV.e3
   generalize (thenS rm m).1=x at TH ⊢
   clear ht hrc
   go_enter Tryz.func84,Tryz.ntmps84
   go_upto_region 5 with (first | (go_at_call 28;refine AT.mono ?_;rintro e w1 ⟨rfl,b1⟩;have R1:=RD w1 (HN.out.below (mbel b0 b1))) | (go_at_call 121;refine R1.mono ?_;rintro e w2 ⟨rfl,b2⟩))
   have b3:=mal w2 (.cells #[.int .i64 rm.a.n,.int .i64 rm.a.d,.int .i64 rm.b.n,.int .i64 rm.b.d,.int .i64 rm.c.n,.int .i64 rm.c.d,.int .i64 rm.d.n,.int .i64 rm.d.d,.int .i64 rm.e.n,.int .i64 rm.e.d,.int .i64 rm.f.n,.int .i64 rm.f.d] 113)
   have KM:=Blk.new w2 #[.int .i64 rm.a.n,.int .i64 rm.a.d,.int .i64 rm.b.n,.int .i64 rm.b.d,.int .i64 rm.c.n,.int .i64 rm.c.d,.int .i64 rm.d.n,.int .i64 rm.d.d,.int .i64 rm.e.n,.int .i64 rm.e.d,.int .i64 rm.f.n,.int .i64 rm.f.d] 113
   have bU:=mbel (mbel b0 b1) (mbel b2 b3)
   have K0U:=K0.below (mbel b1 (mbel b2 b3)) Nat.le.refl
   have hpU:=(bU.block _ hpl).trans hp
   have hlt:W.heap.size<w2.heap.size:=by have:=b1.size;have:=b2.size;simp at *;omega
   obtain ⟨U,hU⟩:∃ U,w2.alloc (.cells #[.int .i64 rm.a.n,.int .i64 rm.a.d,.int .i64 rm.b.n,.int .i64 rm.b.d,.int .i64 rm.c.n,.int .i64 rm.c.d,.int .i64 rm.d.n,.int .i64 rm.d.d,.int .i64 rm.e.n,.int .i64 rm.e.d,.int .i64 rm.f.n,.int .i64 rm.f.d] 113)=U:=⟨_,rfl⟩
   rw [hU] at bU K0U hpU KM ⊢
   obtain ⟨RB,hRB⟩:∃ r,w2.heap.size=r:=⟨_,rfl⟩
   rw [hRB] at KM hlt ⊢
   have NU:=HN.out.below bU
   have TU:=fun V (hV:Below U.heap.size U V)=>TH V (NU.below hV)
   clear hU b0 b1 b2 b3 AT RD R1 TH hw0 K0 hp
   have T1:=TU U.drew (below_drewN (Below.refl _ _) 1)
   obtain ⟨m0,m1,m2,m3,m4,m5,m6,m7,m8,m9,m10,m11, -⟩:=KM.all24
   have p2:=bcell hpU 2 _ rfl
   have p3:=bcell hpU 3 _ rfl
   have p4:=bcell hpU 4 _ rfl
   have p5:=bcell hpU 5 _ rfl
   have p6:=bcell hpU 6 _ rfl
   have p7:=bcell hpU 7 _ rfl
   have p8:=bcell hpU 8 _ rfl
   have p9:=bcell hpU 9 _ rfl
   have p10:=bcell hpU 10 _ rfl
   have p11:=bcell hpU 11 _ rfl
   have p12:=bcell hpU 12 _ rfl
   have p13:=bcell hpU 13 _ rfl
   have RF:∀ V,Below U.heap.size U.drew V->Blk V W.heap.size #[.int .i64 0,.int .i64 0,.int .i64 0,.int .i64 0,.int .i64 0,.int .i64 0,.int .i64 0,.int .i64 0,.int .i64 0,.int .i64 0,.int .i64 0,.int .i64 0] 113:=fun V hV=>⟨(hV.block _ K0U.lt).trans K0U.h⟩
   clear hpU KM
   go_region_with (go_at_call 122;refine T1.mono ?_;rintro e w3 ⟨rfl,b4⟩;obtain ⟨z0,z1,z2,z3,z4,z5,z6,z7,z8,z9,z10,z11,y0,y1,y2,y3,y4,y5,y6,y7,y8,y9,y10,y11⟩:=(RF w3 b4).all24)
   all_goals go_wp2_with fail
   all_goals refine bodyPost_ret (v:=.tuple #[mv x,.nilIface]) (by simp [results,Tryz.results84,go_sem,z0,z1,z2,z3,z4,z5,z6,z7,z8,z9,z10,z11]) rfl ⟨rfl,?_⟩
   all_goals exact put_below (R:=W.heap.size) Nat.le.refl [.int .i64 x.a.n,.int .i64 x.a.d,.int .i64 x.b.n,.int .i64 x.b.d,.int .i64 x.c.n,.int .i64 x.c.d,.int .i64 x.d.n,.int .i64 x.d.d,.int .i64 x.e.n,.int .i64 x.e.d,.int .i64 x.f.n,.int .i64 x.f.d] 0 (bU.trans ((below_drewN (Below.refl _ _) 1).trans (b4.mono Nat.le.refl) |>.mono bU.size))
  ·rw [if_neg ht]
   have TH:∀ V,NE E V->Calls Tryz.prog 122 #[mv rm,mv m] V fun e w'=>(∃ v,e=.returned (.tuple #[mv .zero,v])/\Er.is (E 2) (E 3) (E 2) V.heap.size (.bare 2) v w')/\Below V.heap.size V w':=fun V hV=>by
    have h:=Then_no (aB:=E 2) (aS:=E 3) (aZ:=E 2) (ok_all hro) (ok_all hm) (fun y e=>ht (by rw [(thenR_no e).2.2])) V hV.e3
    have h2:(thenR rm m).2=.bare 2:=by
     unfold thenR
     rw [if_neg (fun e=>e (bad_ok hro)),if_neg (fun e=>e (bad_ok hm)),if_neg ht]
    rw [h2] at h
    exact h
   clear ht hrc
   go_enter Tryz.func84,Tryz.ntmps84
   go_upto_region 5 with (first | (go_at_call 28;refine AT.mono ?_;rintro e w1 ⟨rfl,b1⟩;have R1:=RD w1 (HN.out.below (mbel b0 b1))) | (go_at_call 121;refine R1.mono ?_;rintro e w2 ⟨rfl,b2⟩))
   have b3:=mal w2 (.cells #[.int .i64 rm.a.n,.int .i64 rm.a.d,.int .i64 rm.b.n,.int .i64 rm.b.d,.int .i64 rm.c.n,.int .i64 rm.c.d,.int .i64 rm.d.n,.int .i64 rm.d.d,.int .i64 rm.e.n,.int .i64 rm.e.d,.int .i64 rm.f.n,.int .i64 rm.f.d] 113)
   have KM:=Blk.new w2 #[.int .i64 rm.a.n,.int .i64 rm.a.d,.int .i64 rm.b.n,.int .i64 rm.b.d,.int .i64 rm.c.n,.int .i64 rm.c.d,.int .i64 rm.d.n,.int .i64 rm.d.d,.int .i64 rm.e.n,.int .i64 rm.e.d,.int .i64 rm.f.n,.int .i64 rm.f.d] 113
   have bU:=mbel (mbel b0 b1) (mbel b2 b3)
   have K0U:=K0.below (mbel b1 (mbel b2 b3)) Nat.le.refl
   have hpU:=(bU.block _ hpl).trans hp
   have hlt:W.heap.size<w2.heap.size:=by have:=b1.size;have:=b2.size;simp at *;omega
   obtain ⟨U,hU⟩:∃ U,w2.alloc (.cells #[.int .i64 rm.a.n,.int .i64 rm.a.d,.int .i64 rm.b.n,.int .i64 rm.b.d,.int .i64 rm.c.n,.int .i64 rm.c.d,.int .i64 rm.d.n,.int .i64 rm.d.d,.int .i64 rm.e.n,.int .i64 rm.e.d,.int .i64 rm.f.n,.int .i64 rm.f.d] 113)=U:=⟨_,rfl⟩
   rw [hU] at bU K0U hpU KM ⊢
   obtain ⟨RB,hRB⟩:∃ r,w2.heap.size=r:=⟨_,rfl⟩
   rw [hRB] at KM hlt ⊢
   have NU:=HN.out.below bU
   have TU:=fun V (hV:Below U.heap.size U V)=>TH V (NU.below hV)
   clear hU b0 b1 b2 b3 AT RD R1 TH hw0 K0 hp
   have T1:=TU U.drew (below_drewN (Below.refl _ _) 1)
   obtain ⟨m0,m1,m2,m3,m4,m5,m6,m7,m8,m9,m10,m11, -⟩:=KM.all24
   have p2:=bcell hpU 2 _ rfl
   have p3:=bcell hpU 3 _ rfl
   have p4:=bcell hpU 4 _ rfl
   have p5:=bcell hpU 5 _ rfl
   have p6:=bcell hpU 6 _ rfl
   have p7:=bcell hpU 7 _ rfl
   have p8:=bcell hpU 8 _ rfl
   have p9:=bcell hpU 9 _ rfl
   have p10:=bcell hpU 10 _ rfl
   have p11:=bcell hpU 11 _ rfl
   have p12:=bcell hpU 12 _ rfl
   have p13:=bcell hpU 13 _ rfl
   have RF:∀ V,Below U.heap.size U.drew V->Blk V W.heap.size #[.int .i64 0,.int .i64 0,.int .i64 0,.int .i64 0,.int .i64 0,.int .i64 0,.int .i64 0,.int .i64 0,.int .i64 0,.int .i64 0,.int .i64 0,.int .i64 0] 113:=fun V hV=>⟨(hV.block _ K0U.lt).trans K0U.h⟩
   clear hpU KM
   go_region_with (go_at_call 122;refine T1.mono ?_;rintro e w3 ⟨⟨ev,rfl,hev⟩,b4⟩;obtain ⟨z0,z1,z2,z3,z4,z5,z6,z7,z8,z9,z10,z11,y0,y1,y2,y3,y4,y5,y6,y7,y8,y9,y10,y11⟩:=(RF w3 b4).all24)
   all_goals go_wp2_with fail
   all_goals refine bodyPost_ret (v:=.tuple #[mv .zero,ev]) (by simp [results,Tryz.results84,go_sem,Mv.zero,Fr.zero,z0,z1,z2,z3,z4,z5,z6,z7,z8,z9,z10,z11]) rfl ⟨⟨ev,rfl,by decide,by decide,.inl hev.2⟩,?_⟩
   all_goals exact put_below (R:=W.heap.size) Nat.le.refl [.int .i64 0,.int .i64 0,.int .i64 0,.int .i64 0,.int .i64 0,.int .i64 0,.int .i64 0,.int .i64 0,.int .i64 0,.int .i64 0,.int .i64 0,.int .i64 0] 0 (bU.trans ((below_drewN (Below.refl _ _) 1).trans (b4.mono Nat.le.refl) |>.mono bU.size))
 ·have hrc:rc=1\/rc=2\/rc=3:=hrc.resolve_left hc
  rw [if_pos hc]
  simp only [er0_eV hrc] at RD
  have HRC:Hid (rc=1\/rc=2\/rc=3):=hrc
  clear hrc hro
  go_enter Tryz.func84,Tryz.ntmps84
  go_wp2_with (first | (go_at_call 28;refine AT.mono ?_;rintro e w1 ⟨rfl,b1⟩;have R1:=RD w1 (HN.out.below (mbel b0 b1))) | (go_at_call 121;refine R1.mono ?_;rintro e w2 ⟨rfl,b2⟩;obtain ⟨z0,z1,z2,z3,z4,z5,z6,z7,z8,z9,z10,z11,y0,y1,y2,y3,y4,y5,y6,y7,y8,y9,y10,y11⟩:=((K0.below (mbel b1 b2) Nat.le.refl).alloc (.cells #[.int .i64 rm.a.n,.int .i64 rm.a.d,.int .i64 rm.b.n,.int .i64 rm.b.d,.int .i64 rm.c.n,.int .i64 rm.c.d,.int .i64 rm.d.n,.int .i64 rm.d.d,.int .i64 rm.e.n,.int .i64 rm.e.d,.int .i64 rm.f.n,.int .i64 rm.f.d] 113)).all24))
  refine bodyPost_ret (v:=.tuple #[mv .zero,eV (E rc)]) (by simp [results,Tryz.results84,go_sem,Mv.zero,Fr.zero,z0,z1,z2,z3,z4,z5,z6,z7,z8,z9,z10,z11]) rfl ⟨⟨_,rfl,by have:=HRC.out;omega,by have:=HRC.out;omega,.inl rfl⟩,?_⟩
  exact put_below (R:=W.heap.size) Nat.le.refl [.int .i64 0,.int .i64 0,.int .i64 0,.int .i64 0,.int .i64 0,.int .i64 0,.int .i64 0,.int .i64 0,.int .i64 0,.int .i64 0,.int .i64 0,.int .i64 0] 0 ((mbel b0 (mbel b1 b2)).alloc (mbel b0 (mbel b1 b2)).size _)
end
end
section
open Go.RowKit Go.Shelf
set_option maxHeartbeats 4000000
set_option maxRecDepth 20000
theorem cut44_none (s:ByteArray) (w:World) (h:behind 44 s.data.toList=none) :
  Calls Tryz.prog 135 #[.string s,.string ⟨#[44]⟩] w fun e w'=>e=.returned (.tuple #[.string s,.string ⟨#[]⟩,.bool false])/\∃ k,w'=w.drewN k:=by
 obtain ⟨hi,_⟩:=index_none 44 _ h
 have HI:=Tryz.stringslite_Index_one s 44
 rw [hi] at HI
 have HH:Hid (∀ w,Calls Tryz.prog 188 #[.string s,.string ⟨#[44]⟩] w fun e w'=>e=.returned (.int .i64 (-1))/\w'=w):=HI
 clear HI hi h
 go_enter Tryz.func135,Tryz.ntmps135
 go_wp2_with (go_at_call 188;refine (HH.out _).mono ?_;rintro e w' ⟨rfl,rfl⟩)
 go_ret3
 exact ⟨rfl,0,rfl⟩
theorem cut44_some (s a b:ByteArray) (w:World) (hb:behind 44 s.data.toList=some b.data.toList) (ha:ahead 44 s.data.toList=a.data.toList) (hm:s.size<=9223372036854475807) :
  Calls Tryz.prog 135 #[.string s,.string ⟨#[44]⟩] w fun e w'=>e=.returned (.tuple #[.string a,.string b,.bool true])/\∃ k,w'=w.drewN k:=by
 obtain ⟨i,hi,hl,h3,h4⟩:=index_some 44 _ _ hb
 rw [len_eq] at hl
 have HI:=Tryz.stringslite_Index_one s 44
 rw [hi] at HI
 have HH:Hid (∀ w,Calls Tryz.prog 188 #[.string s,.string ⟨#[44]⟩] w fun e w'=>e=.returned (.int .i64 i)/\w'=w):=HI
 have e1:s.extract 0 i=a:=ext_list (by rw [Lib.extract_data];simpa [ha] using h3)
 have e2:s.extract (i+1) s.size=b:=ext_list (by rw [Lib.extract_to_end];exact h4)
 clear HI hi h3 h4 ha hb
 have hl1:(i:Int)<(s.size:Int):=by omega
 have hl2:(i:Int)+1<=(s.size:Int):=by omega
 have h0:(0:Int)<=(i:Int):=by omega
 go_enter Tryz.func135,Tryz.ntmps135
 go_wp2_with (go_at_call 188;refine (HH.out _).mono ?_;rintro e w' ⟨rfl,rfl⟩)
 go_quiet (fail)
 go_wp2
 go_ret3
 exact ⟨rfl,_,rfl⟩
theorem CutC_none (s:ByteArray) (w:World) (h:behind 44 s.data.toList=none) :
  Calls Tryz.prog 97 #[.string s,.string ⟨#[44]⟩] w fun e w'=>e=.returned (.tuple #[.string s,.string ⟨#[]⟩,.bool false])/\∃ k,w'=w.drewN k:=by
 have HB:Hid (behind 44 s.data.toList=none):=h
 clear h
 go_enter Tryz.func97,Tryz.ntmps97
 go_wp2_with (go_at_call 135;refine (cut44_none s _ HB.out).mono ?_;rintro e w' ⟨rfl,k,rfl⟩)
 go_ret3
 exact ⟨rfl,_,rfl⟩
theorem CutC_some (s a b:ByteArray) (w:World) (hb:behind 44 s.data.toList=some b.data.toList) (ha:ahead 44 s.data.toList=a.data.toList) (hm:s.size<=9223372036854475807) :
  Calls Tryz.prog 97 #[.string s,.string ⟨#[44]⟩] w fun e w'=>e=.returned (.tuple #[.string a,.string b,.bool true])/\∃ k,w'=w.drewN k:=by
 have HB:Hid (behind 44 s.data.toList=some b.data.toList):=hb
 have HA:Hid (ahead 44 s.data.toList=a.data.toList):=ha
 clear ha hb
 go_enter Tryz.func97,Tryz.ntmps97
 go_wp2_with (go_at_call 135;refine (cut44_some s a b _ HB.out HA.out hm).mono ?_;rintro e w' ⟨rfl,k,rfl⟩)
 go_ret3
 exact ⟨rfl,_,rfl⟩
theorem er4_eV {E:Nat->Addr} {c:Nat} (h:c=1\/c=2\/c=3):er4 (E 1) (E 2) (E 3) (E 2) c=eV (E c):=by
 rcases h with rfl | rfl | rfl <;> rfl
theorem er4_nil {E:Nat->Addr}:er4 (E 1) (E 2) (E 3) (E 2) 0=.nilIface:=rfl
abbrev zQt:Qt:=⟨0,0,0,0⟩
def RpR (x:Option Qt) (e:Ending):Prop:=match x with
 | some q=>e=.returned (.tuple #[qtV q,.bool true])
 | none=>e=.returned (.tuple #[qtV zQt,.bool false])
section
variable {E:Nat->Addr} {W:World}
theorem RdF_any (hN:NE E W) (s:ByteArray) (hs:s.size<=1000000):Calls Tryz.prog 214 #[.string s] W fun e w'=>e=.returned (.tuple #[.agg #[.int .i64 (rd s.data.toList).n,.int .i64 (rd s.data.toList).d],er4 (E 1) (E 2) (E 3) (E 2) (rd s.data.toList).c])/\Below W.heap.size W w':=
 ReadF_any (E 1) (E 2) (E 3) (E 2) s W hN.e3 hN.c1 (by omega)
theorem readPoint_walk (s l r:ByteArray) (bo:Bool) (xn xd yn yd:Int) (e1 e2:Value) (ans:Option Qt)
  (CT:∀ V,Calls Tryz.prog 97 #[.string s,.string ⟨#[44]⟩] V fun e w'=>e=.returned (.tuple #[.string l,.string r,.bool bo])/\∃ k,w'=V.drewN k)
  (RX:∀ V,NE E V->Calls Tryz.prog 214 #[.string l] V fun e w'=>e=.returned (.tuple #[.agg #[.int .i64 xn,.int .i64 xd],e1])/\Below V.heap.size V w')
  (RY:∀ V,NE E V->Calls Tryz.prog 214 #[.string r] V fun e w'=>e=.returned (.tuple #[.agg #[.int .i64 yn,.int .i64 yd],e2])/\Below V.heap.size V w')
  (hans:(bo=false/\ans=none)\/(bo=true/\(∃ a,e1=eV a)/\ans=none)\/(bo=true/\e1=.nilIface/\(∃ a,e2=eV a)/\ans=none)\/(bo=true/\e1=.nilIface/\e2=.nilIface/\ans=some ⟨xn,xd,yn,yd⟩)) (hN:NE E W) :
  Calls Tryz.prog 218 #[.string s] W fun e w'=>RpR ans e/\Below W.heap.size W w':=by
 have b0:=mal W (.cells #[.int .i64 0,.int .i64 0,.int .i64 0,.int .i64 0] 121)
 have K0:=mbox W #[.int .i64 0,.int .i64 0,.int .i64 0,.int .i64 0] 121
 have HN:Hid (NE E W):=hN
 clear hN
 go_enter Tryz.func218,Tryz.ntmps218
 go_upto_region 2 with (go_at_call 97;refine (CT _).mono ?_;rintro e w1 ⟨rfl,k,hw⟩;rw [hw])
 have bU1:=below_drewN b0 k
 obtain ⟨U1,hU1⟩:∃ U,((W.alloc (.cells #[.int .i64 0,.int .i64 0,.int .i64 0,.int .i64 0] 121)).drewN k)=U:=⟨_,rfl⟩
 have K1:U1.heap[W.heap.size]? = some (.cells #[.int .i64 0,.int .i64 0,.int .i64 0,.int .i64 0] 121):=by rw [<- hU1];exact K0
 rw [hU1] at bU1 ⊢
 clear hU1 K0 b0
 have R1:=RX U1 (HN.out.below bU1)
 go_upto_region 3 with (go_at_call 214;refine R1.mono ?_;rintro e w2 ⟨rfl,b2⟩)
 have b3:=mal w2 (.cells #[.int .i64 xn,.int .i64 xd] 52)
 have KX:=mbox w2 #[.int .i64 xn,.int .i64 xd] 52
 obtain ⟨U2,hU2⟩:∃ U,w2.alloc (.cells #[.int .i64 xn,.int .i64 xd] 52)=U:=⟨_,rfl⟩
 obtain ⟨BX,hBX⟩:∃ b,w2.heap.size=b:=⟨_,rfl⟩
 rw [hU2] at b3 KX ⊢
 rw [hBX] at KX ⊢
 have b23:=mbel b2 b3
 have hlt1:W.heap.size<BX:=by have:=b2.size;have:=blk_lt K1;omega
 have K2:=(b23.block _ (blk_lt K1)).trans K1
 have bU2:=mbel bU1 b23
 clear R1 hU2 b2 b3 b23 K1 hBX
 have R2:=RY U2 (HN.out.below bU2)
 go_upto_region 4 with (go_at_call 214;refine R2.mono ?_;rintro e w4 ⟨rfl,b4⟩)
 have b5:=mal w4 (.cells #[.int .i64 yn,.int .i64 yd] 52)
 have KY:=mbox w4 #[.int .i64 yn,.int .i64 yd] 52
 obtain ⟨U3,hU3⟩:∃ U,w4.alloc (.cells #[.int .i64 yn,.int .i64 yd] 52)=U:=⟨_,rfl⟩
 obtain ⟨BY,hBY⟩:∃ b,w4.heap.size=b:=⟨_,rfl⟩
 rw [hU3] at b5 KY ⊢
 rw [hBY] at KY ⊢
 have b45:=mbel b4 b5
 have hlt2:BX<BY:=by have:=b4.size;have:=blk_lt KX;omega
 have K3:=(b45.block _ (blk_lt K2)).trans K2
 have KX3:=(b45.block _ (blk_lt KX)).trans KX
 have bU3:=mbel bU2 b45
 clear R2 hU3 b4 b5 b45 K2 KX hBY
 have x0:=bcell KX3 0 _ rfl
 have x1:=bcell KX3 1 _ rfl
 have y0:=bcell KY 0 _ rfl
 have y1:=bcell KY 1 _ rfl
 have r0:=bcell K3 0 _ rfl
 have r1:=bcell K3 1 _ rfl
 have r2:=bcell K3 2 _ rfl
 have r3:=bcell K3 3 _ rfl
 have f0:=bfrozQ K3 0
 have f1:=bfrozQ K3 1
 have f2:=bfrozQ K3 2
 have f3:=bfrozQ K3 3
 clear CT RX RY
 rcases hans with ⟨rfl,rfl⟩ | ⟨rfl,⟨a,rfl⟩,rfl⟩ | ⟨rfl,rfl,⟨a,rfl⟩,rfl⟩ | ⟨rfl,rfl,rfl,rfl⟩
 ·go_wp2_with fail
  all_goals refine bodyPost_ret (v:=.tuple #[qtV zQt,.bool false]) (by simp [results,Tryz.results218,go_sem,r0,r1,r2,r3]) rfl ⟨rfl,?_⟩
  all_goals exact (((bU3.setCell Nat.le.refl _).setCell Nat.le.refl _).setCell Nat.le.refl _).setCell Nat.le.refl _
 ·go_wp2_with fail
  all_goals refine bodyPost_ret (v:=.tuple #[qtV zQt,.bool false]) (by simp [results,Tryz.results218,go_sem,r0,r1,r2,r3]) rfl ⟨rfl,?_⟩
  all_goals exact (((bU3.setCell Nat.le.refl _).setCell Nat.le.refl _).setCell Nat.le.refl _).setCell Nat.le.refl _
 ·go_wp2_with fail
  all_goals refine bodyPost_ret (v:=.tuple #[qtV zQt,.bool false]) (by simp [results,Tryz.results218,go_sem,r0,r1,r2,r3]) rfl ⟨rfl,?_⟩
  all_goals exact (((bU3.setCell Nat.le.refl _).setCell Nat.le.refl _).setCell Nat.le.refl _).setCell Nat.le.refl _
 ·go_wp2_with fail
  all_goals refine bodyPost_ret (v:=.tuple #[qtV ⟨xn,xd,yn,yd⟩,.bool true]) (by simp [results,Tryz.results218,go_sem,r0,r1,r2,r3]) rfl ⟨rfl,?_⟩
  all_goals exact (((bU3.setCell Nat.le.refl _).setCell Nat.le.refl _).setCell Nat.le.refl _).setCell Nat.le.refl _
theorem rd_err (l:Bs):(rd l).c=0\/(rd l).c=1\/(rd l).c=2\/(rd l).c=3:=by
 rcases rd_cases l with h | ⟨h, -⟩
 ·exact .inl h
 ·exact .inr h
theorem readPoint_any (hN:NE E W) (s:ByteArray) (hs:s.size<=1000) :
  Calls Tryz.prog 218 #[.string s] W fun e w'=>RpR (ptM s.data.toList) e/\Below W.heap.size W w':=by
 unfold ptM
 cases hb:behind 44 s.data.toList with
 | none=>
  exact readPoint_walk s s ⟨#[]⟩ false _ _ _ _ _ _ none (fun V=>CutC_none s V hb) (fun V hV=>RdF_any hV s (by omega)) (fun V hV=>RdF_any hV ⟨#[]⟩ (by decide)) (.inl ⟨rfl,rfl⟩) hN
 | some b=>
  have hbb:behind 44 s.data.toList=some (⟨b.toArray⟩:ByteArray).data.toList:=hb
  have haa:ahead 44 s.data.toList=(⟨(ahead 44 s.data.toList).toArray⟩:ByteArray).data.toList:=rfl
  obtain ⟨i, -,hl,h3,h4⟩:=index_some 44 _ _ hb
  have hla:(⟨(ahead 44 s.data.toList).toArray⟩:ByteArray).size<=1000000:=by
   show (ahead 44 s.data.toList).length<=1000000
   rw [<- h3,List.length_take]
   have:s.data.toList.length=s.size:=rfl
   omega
  have hlb:(⟨b.toArray⟩:ByteArray).size<=1000000:=by
   show b.length<=1000000
   rw [<- h4,List.length_drop]
   have:s.data.toList.length=s.size:=rfl
   omega
  refine readPoint_walk s ⟨(ahead 44 s.data.toList).toArray⟩ ⟨b.toArray⟩ true _ _ _ _ _ _ _ (fun V=>CutC_some s _ _ V hbb haa (by omega)) (fun V hV=>RdF_any hV _ hla) (fun V hV=>RdF_any hV _ hlb) (.inr ?_) hN
  dsimp only
  rcases rd_err (ahead 44 s.data.toList) with h1 | h1
  ·rcases rd_err b with h2 | h2
   ·exact .inr (.inr ⟨rfl,by rw [h1,er4_nil],by rw [h2,er4_nil],by rw [if_pos ⟨h1,h2⟩]⟩)
   ·exact .inr (.inl ⟨rfl,by rw [h1,er4_nil],⟨_,er4_eV h2⟩,by rw [if_neg (by omega)]⟩)
  ·exact .inl ⟨rfl,⟨_,er4_eV h1⟩,by rw [if_neg (by omega)]⟩
end
end
section
open Go.RowKit Go.Shelf
set_option maxHeartbeats 4000000
set_option maxRecDepth 20000
def CkR (E:Nat->Addr) (l:List Qt) (o:Option Addr) (cap:Nat) (e:Ending) (w':World):Prop:=
 (okB l=true/\e=.returned (.tuple #[.agg #[.slice o l.length cap],.nilIface]))\/(okB l=false/\∃ v,e=.returned (.tuple #[.agg #[.slice none 0 0],v])/\ErC E 2 v w')
theorem okB_iff (l:List Qt):okB l=true↔okSh l:=by
 unfold okB okSh
 simp
theorem chk_rt {E:Nat->Addr} {w W:World} {l:List Qt} {e:Ending} (hl:∀ y ∈ l,chkP y=0) (h:ChkR (E 2) (E 3) (E 2) w l e W):∃ v,e=.returned v/\((okB l=true/\v=.nilIface)\/(okB l=false/\(v=eV (E 2)\/∃ pb,w.heap.size<=pb/\v=.iface 143 (.pointer (some ⟨pb,0,none⟩))/\W.cell? ⟨pb,1,none⟩=some (eV (E 2))))):=by
 rcases h with ⟨h1,h2⟩ | ⟨-,⟨y,hy,hy2⟩, -⟩ | ⟨h1,h2,h3⟩
 ·exact ⟨_,h2,.inr ⟨by rw [<- Bool.not_eq_true,okB_iff];exact fun h=>by have:=h.1;omega,.inl rfl⟩⟩
 ·exact absurd (hl y hy) hy2
 ·rcases h3 with ⟨h4,h5⟩ | ⟨q,x,r,pb,h4, -,h6,h7,h8, -,h9⟩
  ·exact ⟨_,h5,.inl ⟨(okB_iff l).2 ⟨h1,fun y hy=>by unfold errP;rw [if_neg (by simp [h2 y hy])];exact h4 y hy⟩,rfl⟩⟩
  ·have hx:bigP x=2:=by have:=bigP_cases x;omega
   refine ⟨_,h8,.inr ⟨?_,.inr ⟨pb,h7,rfl,by rw [h9,hx];rfl⟩⟩⟩
   rw [<- Bool.not_eq_true,okB_iff]
   intro hh
   have hm:x ∈ l:=by rw [h4];simp
   have:=hh.2 x hm
   unfold errP at this
   rw [if_neg (by simp [h2 x hm])] at this
   exact h6 this
theorem checked_rt {E:Nat->Addr} (l:List Qt) (hl:∀ y ∈ l,chkP y=0) (o:Option Addr) (cap:Nat) (w:World) (h:PtsAt w o l) (hE:NE E w) :
  Calls Tryz.prog 216 #[.slice o l.length cap] w fun e W=>CkR E l o cap e W/\Below w.heap.size w W:=by
 go_enter Tryz.func216,Tryz.ntmps216
 go_upto_region 2 with fail
 obtain ⟨U,hU⟩:∃ U,(w.alloc (.cells #[.slice none 0 0] 43)).alloc (.cells #[.slice o l.length cap] 43)=U:=⟨_,rfl⟩
 have hbU:Below w.heap.size w U:=by rw [<- hU];exact ((Below.refl _ _).alloc Nat.le.refl _).alloc (by simp) _
 have c0:U.cell? ⟨w.heap.size,0,none⟩=some (.slice none 0 0)/\U.frozen? ⟨w.heap.size,0,none⟩=false:=by
  rw [<- hU]
  have h1:=mbelow (w.alloc (.cells #[.slice none 0 0] 43)) (.cells #[.slice o l.length cap] 43)
  exact ⟨(h1.cell (p:=⟨w.heap.size,0,none⟩) (by simp)).trans (cell_onew w _ _).1,(h1.frozen (p:=⟨w.heap.size,0,none⟩) (by simp)).trans (cell_onew w _ _).2⟩
 have c1:U.cell? ⟨w.heap.size+1,0,none⟩=some (.slice o l.length cap):=by
  have h1:=(cell_onew (w.alloc (.cells #[.slice none 0 0] 43)) (.slice o l.length cap) 43).1
  rw [show (w.alloc (.cells #[.slice none 0 0] 43)).heap.size=w.heap.size+1 from by simp,hU] at h1
  exact h1
 rw [hU]
 clear hU
 obtain ⟨c0,f0⟩:=c0
 have CK:=Check_sh (E 2) (E 3) (E 2) l o cap U (h.below hbU Nat.le.refl) (hE.e3.below hbU Nat.le.refl)
 have hUl:w.heap.size<U.heap.size:=cell_lt c0
 have HL:Hid (∀ y ∈ l,chkP y=0):=hl
 go_upto_region 3 with (go_at_call 194;refine CK.mono ?_;rintro e w1 ⟨hc,b1⟩;obtain ⟨v,rfl,hcv⟩:=chk_rt HL.out hc)
 have q0:=(b1.cell (cell_lt c0)).trans c0
 have g0:=(b1.frozen (cell_lt c0)).trans f0
 have q1:=(b1.cell (cell_lt c1)).trans c1
 have bw1:=bel_more hbU b1
 clear hc CK c0 f0 c1
 rcases hcv with ⟨hok,rfl⟩ | ⟨hno,hv⟩
 ·go_wp2_with fail
  have d0:(w1.setCell ⟨w.heap.size,0,none⟩ (.slice o l.length cap)).cell? ⟨w.heap.size,0,none⟩=some (.slice o l.length cap):=World.cell?_setCell_same' _ _ _ (by rw [q0];rfl)
  exact bodyPost_ret (v:=.tuple #[.agg #[.slice o l.length cap],.nilIface]) (by simp [results,Tryz.results216,go_sem,d0]) rfl ⟨.inl ⟨hok,rfl⟩,bw1.setCell (by simp) _⟩
 ·have d0:(w1.setCell ⟨w.heap.size,0,none⟩ (.slice none 0 0)).cell? ⟨w.heap.size,0,none⟩=some (.slice none 0 0):=World.cell?_setCell_same' _ _ _ (by rw [q0];rfl)
  rcases hv with rfl | ⟨pb,hpb,rfl,hp1⟩
  ·go_wp2_with fail
   exact bodyPost_ret (v:=.tuple #[.agg #[.slice none 0 0],eV (E 2)]) (by simp [results,Tryz.results216,go_sem,d0]) rfl ⟨.inr ⟨hno,_,rfl,by decide,by decide,.inl rfl⟩,bw1.setCell (by simp) _⟩
  ·go_wp2_with fail
   refine bodyPost_ret (v:=.tuple #[.agg #[.slice none 0 0],.iface 143 (.pointer (some ⟨pb,0,none⟩))]) (by simp [results,Tryz.results216,go_sem,d0]) rfl ⟨.inr ⟨hno,_,rfl,by decide,by decide,.inr ⟨pb,0,rfl,?_⟩⟩,bw1.setCell (by simp) _⟩
   exact (World.cell?_setCell_far _ _ _ _ (by show w.heap.size≠pb;omega)).trans hp1
end
section
open Go.RowKit Go.Shelf
set_option maxHeartbeats 8000000
set_option maxRecDepth 20000
def ShpR (E:Nat->Addr) (x:Except Nat (List Qt)) (e:Ending) (w':World):Prop:=match x with
 | .ok l=>(∀ a ∈ l,chkP a=0)/\okB l=true/\∃ o cap,e=.returned (.tuple #[.agg #[.slice o l.length cap],.nilIface])/\PtsAt w' o l
 | .error c=>∃ v,e=.returned (.tuple #[.agg #[.slice none 0 0],v])/\ErC E c v w'
def ptB (w:ByteArray):Option Qt:=ptM w.data.toList
theorem ptM_chk {w:Bs} {q:Qt} (h:ptM w=some q):chkP q=0:=by
 unfold ptM at h
 cases hb:behind 44 w with
 | none=>rw [hb] at h;cases h
 | some b=>
  rw [hb] at h
  dsimp only at h
  by_cases hc:(rd (ahead 44 w)).c=0/\(rd b).c=0
  ·rw [if_pos hc] at h
   obtain rfl:=Option.some.inj h
   exact chkP_zero.2 ⟨rd_ok hc.1,rd_ok hc.2⟩
  ·rw [if_neg hc] at h;cases h
theorem mapM_snoc {f:ByteArray->Option Qt} {ws:List ByteArray} {k:Nat} {L:List Qt} {x:ByteArray} {q:Qt} (h:(ws.take k).mapM f=some L) (hx:ws[k]? = some x) (hq:f x=some q):(ws.take (k+1)).mapM f=some (L++[q]):=by
 rw [List.take_add_one,hx]
 simp [List.mapM_append,h,hq]
theorem mapM_no {f:ByteArray->Option Qt}:∀ {ws:List ByteArray} {k:Nat} {x:ByteArray},ws[k]? = some x->f x=none->ws.mapM f=none
 | [],_,_,h,_=>by simp at h
 | y :: ws,0,x,h,hx=>by
  simp at h
  subst h
  simp [hx]
 | y :: ws,k+1,x,h,hx=>by
  have:=mapM_no (ws:=ws) (k:=k) (by simpa using h) hx
  simp [this]
def shpW (ws:List ByteArray):Except Nat (List Qt):=match ws.mapM ptB with
 | none=>.error 1
 | some l=>if okB l then .ok l else .error 2
theorem ErC.far {E:Nat->Addr} {c:Nat} {v u:Value} {w:World} {b:Nat} (h:ErC E c v w):ErC E c v (w.setCell ⟨b,0,none⟩ u):=by
 obtain ⟨h1,h2,h3⟩:=h
 refine ⟨h1,h2,?_⟩
 rcases h3 with h3 | ⟨pb,po,h3,h4⟩
 ·exact .inl h3
 ·exact .inr ⟨pb,po,h3,(World.cell?_setCell_other _ _ _ _ (by intro h;simp at h)).trans h4⟩
def SrL (ws:List ByteArray) (w1:World) (x y:Value) (wr:World):Prop:=∃ (k:Nat) (L:List Qt) (v:Value),x=v/\y=.int .i64 k/\k<=ws.length/\(ws.take k).mapM ptB=some L/\(∀ a ∈ L,chkP a=0)/\L.length=k/\OwnP wr w1.heap.size v L/\Below w1.heap.size w1 wr
section
variable {E:Nat->Addr} {W:World}
theorem ShRead_some (hN:NE E W) (s:ByteArray) (hs:s.size<=1000) (h0:s.size≠0) :
  Calls Tryz.prog 169 #[.string s] W fun e w'=>ShpR E (shpW (words s)) e w'/\Below W.heap.size W w':=by
 obtain ⟨i0,hi,hz0,hz1,hz2⟩:=info_parts infoPt
 have b0:=mal W (.cells #[.slice none 0 0] 43)
 have K0:=mbox W #[.slice none 0 0] 43
 have SP:=split_any s (by omega) (W.alloc (.cells #[.slice none 0 0] 43))
 have hlen:(words s).length=Lib.countB s ⟨#[32]⟩+1:=Lib.splitB_all ⟨#[32]⟩ (by decide) 0 _ s rfl
 have hle:=Lib.countB_le ⟨#[32]⟩ (by decide) s.size s Nat.le.refl
 have hsz:∀ a ∈ words s,a.size<=1000:=fun a ha=>by have:=split_le _ s a ha;omega
 have hws:(Lib.splitB ⟨#[32]⟩ 0 (Lib.countB s ⟨#[32]⟩) s)=words s:=rfl
 rw [hws,<- hlen] at SP
 have hn1:(words s).length<=1001:=by omega
 generalize words s=ws at SP hsz hn1 ⊢
 clear hws hlen hle
 have hne:s.toList.isEmpty=false:=by
  rw [ByteArray.toList_eq,List.isEmpty_eq_false_iff]
  intro e
  exact h0 (by rw [<- len_eq,e];rfl)
 have b1:=mal (W.alloc (.cells #[.slice none 0 0] 43)) (.cells (ws.map Value.string).toArray 9)
 have KW:=mbox (W.alloc (.cells #[.slice none 0 0] 43)) (ws.map Value.string).toArray 9
 have HN:Hid (NE E W):=hN
 clear hN
 go_enter Tryz.func169,Tryz.ntmps169
 go_upto_region 5 with (go_at_call 217;refine SP.mono ?_;rintro e w1 ⟨rfl,rfl⟩)
 clear SP
 obtain ⟨w1,hw1⟩:∃ U,(W.alloc (.cells #[.slice none 0 0] 43)).alloc (.cells (ws.map Value.string).toArray 9)=U:=⟨_,rfl⟩
 obtain ⟨WB,hWB⟩:∃ b,(W.alloc (.cells #[.slice none 0 0] 43)).heap.size=b:=⟨_,rfl⟩
 have hWBl:W.heap.size<WB:=by rw [<- hWB];simp
 have K1:=(b1.block _ (blk_lt K0)).trans K0
 have bw1:=mbel b0 b1
 rw [hw1] at bw1 K1 KW ⊢
 rw [hWB] at KW
 simp only [World.size_alloc] at hWB
 simp only [hWB]
 clear hw1 b0 b1 K0
 go_loopw [4,15] (fun x y wr=>SrL ws w1 x y wr) (fun _ y _=>ws.length - (intOf y).toNat)
 case atStart=>exact ⟨0,[],_,rfl,rfl,Nat.zero_le _,rfl,by simp,rfl,OwnP.nil _ _,Below.refl _ _⟩
 case round=>
  obtain ⟨k,L,v,rfl,rfl,hk,hL,hC,hLl,hO,hb⟩:=hrel
  have HL:Hid ((ws.take k).mapM ptB=some L):=hL
  have HC:Hid (∀ a ∈ L,chkP a=0):=hC
  obtain ⟨ov,cv,rfl,hPts⟩:=hO.at_ (fun a ha=>chkP_pi (hC a ha))
  rw [hLl] at hO ⊢
  have HLL:Hid (L.length=k):=hLl
  have HO:Hid (OwnP wr w1.heap.size (.slice ov k cv) L):=hO
  have HPT:Hid (PtsAt wr ov L):=hPts
  have NR:=HN.out.below (mbel bw1 hb)
  have KR:=(hb.block _ (blk_lt K1)).trans K1
  have KV:=(hb.block _ (blk_lt KW)).trans KW
  have r0:=bcell KR 0 _ rfl
  have f0:=bfrozQ KR 0
  have bWr:=mbel bw1 hb
  clear hL hC hLl hO hPts
  by_cases hlt:k<ws.length
  ·have hltz:(k:Int)<(ws.length:Int):=by omega
   obtain ⟨x,hx⟩:∃ x,ws[k]? = some x:=⟨_,List.getElem?_eq_getElem hlt⟩
   have hc:=bcell KV k (.string x) (by simp [hx])
   have RP:=readPoint_any NR x (hsz x (List.mem_of_getElem? hx))
   have HX:Hid (ws[k]? = some x):=hx
   clear hx
   cases hq:ptM x.data.toList with
   | none=>
    rw [hq] at RP
    have HQ:Hid (ptB x=none):=hq
    clear hq
    have HA:Hid (shpW ws=.error 1):=by
     unfold shpW Hid
     rw [mapM_no HX.out HQ.out]
    go_upto_region 9 with (go_at_call 218;refine RP.mono ?_;rintro e w2 ⟨rfl,b2⟩)
    have b3:=mal w2 (.cells #[.int .i64 0,.int .i64 0,.int .i64 0,.int .i64 0] 121)
    obtain ⟨U,hU⟩:∃ U,w2.alloc (.cells #[.int .i64 0,.int .i64 0,.int .i64 0,.int .i64 0] 121)=U:=⟨_,rfl⟩
    rw [hU] at b3 ⊢
    have b4:=mbel b2 b3
    have NU:=NR.below b4
    have e1:=NU.c1
    have KU:=(b4.block _ (blk_lt KR)).trans KR
    have u0:=bcell KU 0 _ rfl
    have uf:=bfrozQ KU 0
    have hg:7<W.heap.size:=cell_lt HN.out.c1
    have e1':(U.setCell ⟨W.heap.size,0,none⟩ (.slice none 0 0)).cell? ⟨7,0,none⟩=some (eV (E 1)):=(World.cell?_setCell_far _ _ _ _ (by show W.heap.size≠7;omega)).trans e1
    clear RP hU b2 b3 hc
    go_region
    all_goals go_wp2_with fail
    all_goals refine bodyPost_ret (v:=.tuple #[.agg #[.slice none 0 0],eV (E 1)]) (by simp [results,Tryz.results169,go_sem,u0]) rfl ⟨?_,below_drewN ((mbel bWr b4).setCell Nat.le.refl _) 1⟩
    all_goals rw [HA.out]
    all_goals exact ⟨_,rfl,by decide,by decide,.inl rfl⟩
   | some q=>
    rw [hq] at RP
    have HQ:Hid (ptB x=some q):=hq
    have hqc:=ptM_chk hq
    clear hq
    go_upto_region 10 with (go_at_call 218;refine RP.mono ?_;rintro e w2 ⟨rfl,b2⟩)
    have b3:=mal w2 (.cells #[.int .i64 q.xn,.int .i64 q.xd,.int .i64 q.yn,.int .i64 q.yd] 121)
    have F3:=Four.new w2 (.int .i64 q.xn) (.int .i64 q.xd) (.int .i64 q.yn) (.int .i64 q.yd) 121
    obtain ⟨U,hU⟩:∃ U,w2.alloc (.cells #[.int .i64 q.xn,.int .i64 q.xd,.int .i64 q.yn,.int .i64 q.yd] 121)=U:=⟨_,rfl⟩
    obtain ⟨BQ,hBQ⟩:∃ b,w2.heap.size=b:=⟨_,rfl⟩
    rw [hU] at b3 F3 ⊢
    rw [hBQ] at F3 ⊢
    have b4:=mbel b2 b3
    have b8:=mbel hb b4
    have hz8:=b8.size
    have hownU:U.ownsRow w1.heap.size 121 4 (.slice ov k cv) k (cellsP L):=by
     have h:=HO.out.keep b4
     unfold OwnP at h
     rw [HLL.out] at h
     exact h
    have hnb:=World.alloc_heap_new U (.cells #[.int .i64 q.xn,.int .i64 q.xd,.int .i64 q.yn,.int .i64 q.yd] 121)
    have owj':(U.alloc (.cells #[.int .i64 q.xn,.int .i64 q.xd,.int .i64 q.yn,.int .i64 q.yd] 121)).ownsRow w1.heap.size 121 4 (.slice ov k cv) k (cellsP L):=World.ownsRow.alloc hownU _
    have HT:Hid ((ws.take (k+1)).mapM ptB=some (L++[q])):=mapM_snoc HL.out HX.out HQ.out
    obtain ⟨f0,f1,f2,f3⟩:=F3
    clear RP hU hBQ b2 b3 hc hownU r0 KR KV NR HPT
    go_wp2_with (at_builtin;refine wpList_append_own _ rfl _ _ 41 rfl (w1.heap.size) 121 i0 (.agg #[.int .i64 0,.int .i64 0,.int .i64 0,.int .i64 0]) 4 32 Tryz.underlying41 hi hz0 hz1 hz2 rfl (by decide) _ _ _ rfl owj' _ _ _ (cellsP [q]) rfl (cellsP_len [q]) (World.news_of_block hnb) (cellsP_one _) (by simp only [maxLen];omega) (by omega) (by simp;omega) ?_;intro v12 w12 ow12 gr12 _)
    go_roundw
    case rel=>
     refine ⟨k+1,L++[q],v12,rfl,by go_num,hlt,HT.out,fun a ha=>?_,by simp [HLL.out],?_,(b8.alloc hz8 _).grown gr12 (by simp;omega) (own_ge' owj')⟩
     ·rcases List.mem_append.1 ha with h | h
      ·exact HC.out a h
      ·simp at h;rw [h];exact hqc
     ·rw [<- HLL.out] at ow12
      exact OwnP.app (m:=[q]) ow12 rfl
    case measure=>simp [intOf];omega
  ·have hltz:¬ (k:Int)<(ws.length:Int):=by omega
   obtain rfl:k=ws.length:=by omega
   have HT:Hid (ws.mapM ptB=some L):=by
    have:=HL.out
    rw [List.take_length] at this
    exact this
   have hll:=HLL.out
   have CK:=checked_rt L HC.out ov cv wr HPT.out NR
   rw [hll] at CK
   clear hll
   have HAN:Hid (shpW ws=if okB L then .ok L else .error 2):=by
    unfold shpW Hid
    rw [HT.out]
   go_upto_region 12 with fail
   have RES:∀ w2,Below wr.heap.size wr w2->w2.cell? ⟨W.heap.size,0,none⟩=some (.slice none 0 0)/\w2.frozen? ⟨W.heap.size,0,none⟩=false:=fun w2 b2=>by
    have:=(b2.block _ (blk_lt KR)).trans KR
    exact ⟨bcell this 0 _ rfl,bfrozQ this 0⟩
   clear r0 f0 KR KV
   cases hok:okB L with
   | true=>
    have CK2:Calls Tryz.prog 216 #[.slice ov ws.length cv] wr fun e w'=>e=.returned (.tuple #[.agg #[.slice ov ws.length cv],.nilIface])/\Below wr.heap.size wr w':=CK.mono fun e w' ⟨h,hb2⟩=>by
     rcases h with ⟨-,h⟩ | ⟨h, -⟩
     ·rw [HLL.out] at h;exact ⟨h,hb2⟩
     ·rw [hok] at h;cases h
    have HOK:Hid (okB L=true):=hok
    clear CK hok
    go_wp2_with (go_at_call 216;refine CK2.mono ?_;rintro e w2 ⟨rfl,b2⟩;obtain ⟨u0,uf⟩:=RES w2 b2)
    refine bodyPost_ret (v:=.tuple #[.agg #[.slice ov ws.length cv],.nilIface]) (by simp [results,Tryz.results169,go_sem,u0]) rfl ⟨?_,(mbel bWr b2).setCell Nat.le.refl _⟩
    rw [HAN.out,if_pos HOK.out]
    refine ⟨HC.out,HOK.out,ov,cv,by rw [HLL.out],?_⟩
    have ho:=(HO.out.keep b2).far (b:=W.heap.size) (u:=.slice ov ws.length cv) (by have:=blk_lt K1;have:=bw1.size;omega)
    obtain ⟨o',c',h1,h2⟩:=ho.at_ (fun a ha=>chkP_pi (HC.out a ha))
    injection h1 with h1
    subst h1
    exact h2
   | false=>
    have CK2:Calls Tryz.prog 216 #[.slice ov ws.length cv] wr fun e w'=>(∃ v,e=.returned (.tuple #[.agg #[.slice none 0 0],v])/\ErC E 2 v w')/\Below wr.heap.size wr w':=CK.mono fun e w' ⟨h,hb2⟩=>by
     rcases h with ⟨h, -⟩ | ⟨-,h⟩
     ·rw [hok] at h;cases h
     ·exact ⟨h,hb2⟩
    have HOK:Hid (¬ okB L=true):=by show ¬ _;rw [hok];simp
    clear CK hok
    go_wp2_with (go_at_call 216;refine CK2.mono ?_;rintro e w2 ⟨⟨v,rfl,hv⟩,b2⟩;obtain ⟨u0,uf⟩:=RES w2 b2)
    refine bodyPost_ret (v:=.tuple #[.agg #[.slice none 0 0],v]) (by simp [results,Tryz.results169,go_sem,u0]) rfl ⟨?_,(mbel bWr b2).setCell Nat.le.refl _⟩
    rw [HAN.out,if_neg HOK.out]
    exact ⟨v,rfl,hv.far⟩
theorem ShRead_any (hN:NE E W) (s:Bs) (hs:s.length<=1000) :
  Calls Tryz.prog 169 #[bV s] W fun e w'=>ShpR E (shapeM s) e w'/\Below W.heap.size W w':=by
 unfold shapeM
 by_cases h0:s=[]
 ·subst h0
  rw [if_pos rfl]
  clear hN
  go_enter Tryz.func169,Tryz.ntmps169
  go_wp2
  have b0:=mal W (.cells #[.slice none 0 0] 43)
  refine bodyPost_ret (v:=.tuple #[.agg #[.slice none 0 0],.nilIface]) (by simp [results,Tryz.results169,go_sem]) rfl ⟨⟨by simp,rfl,none,0,rfl,fun i x h=>by simp at h⟩,b0⟩
 ·rw [if_neg h0]
  have h:=ShRead_some hN ⟨s.toArray⟩ hs (fun h=>h0 (List.length_eq_zero_iff.1 h))
  have e:(fun (w:ByteArray)=>ptM w.toList)=ptB:=by
   funext w
   unfold ptB
   rw [ByteArray.toList_eq]
  rw [e]
  exact h
end
end
section
open Go.RowKit Go.Shelf
set_option maxHeartbeats 2000000
theorem pts_far {w:World} {b:Nat} {a:Option Addr} {n c:Nat} {t:TypeId} {u:Value} {o:Option Addr} {l:List Qt} (hk:w.heap[b]? = some (.cells #[.slice a n c] t)) (h:PtsAt w o l):PtsAt (w.setCell ⟨b,0,none⟩ u) o l:=fun i x hx=>by
 obtain ⟨b',off,h1,h2⟩:=h i x hx
 obtain ⟨c0,c1,c2,c3,hp⟩:=h2
 have hne:b≠b':=by
  rintro rfl
  simp only [World.cell?,hk] at c0
  have hi:off+i * 4<(#[Value.slice a n c]:Array Value).size:=(Array.getElem?_eq_some_iff.1 c0).1
  have h0:off+i * 4=0:=by simpa using hi
  rw [h0] at c0
  simp at c0
 have F:=fun (k:Nat)=>World.cell?_setCell_far w ⟨b,0,none⟩ ⟨b',k,none⟩ u hne
 exact ⟨b',off,h1,(F _).trans c0,(F _).trans c1,(F _).trans c2,(F _).trans c3,hp⟩
theorem ShpR.far {E:Nat->Addr} {x:Except Nat (List Qt)} {e:Ending} {w:World} {b:Nat} {a:Option Addr} {n c:Nat} {t:TypeId} {u:Value} (h:ShpR E x e w) (hk:w.heap[b]? = some (.cells #[.slice a n c] t)):ShpR E x e (w.setCell ⟨b,0,none⟩ u):=by
 cases x with
 | error k=>
  obtain ⟨v,h1,h2⟩:=h
  exact ⟨v,h1,h2.far⟩
 | ok l=>
  obtain ⟨h0,h1,o,cap,h2,h3⟩:=h
  exact ⟨h0,h1,o,cap,h2,pts_far hk h3⟩
theorem ShpR.is {E:Nat->Addr} {x:Except Nat (List Qt)} {e:Ending} {w:World} (h:ShpR E x e w):∃ o n c v,e=.returned (.tuple #[.agg #[.slice o n c],v]):=by
 cases x with
 | error k=>obtain ⟨v,h1, -⟩:=h;exact ⟨_,_,_,_,h1⟩
 | ok l=>obtain ⟨-, -,o,cap,h1, -⟩:=h;exact ⟨_,_,_,_,h1⟩
section
variable {E:Nat->Addr} {B:Nat} {tg:Tags} {W:World} {DB MB:Nat} {p:Int->Option Nat} {M:Dm} {nx c:Nat}
theorem polyOf_any (hN:NE E W) (hd:DocW B tg W DB MB p M nx c) (hz:SzD M) (WB:Nat) (hw:W.cell? ⟨WB,0,none⟩=some (.pointer (some ⟨DB,0,none⟩))) (n:Int) (hn:Wf64 n) :
  Calls Tryz.prog 118 #[.pointer (some ⟨WB,0,none⟩),.int .i64 n] W fun e w'=>ShpR E (polyM M n) e w'/\Below W.heap.size W w':=by
 have b0:=mal W (.cells #[.slice none 0 0] 43)
 have K0:=mbox W #[.slice none 0 0] 43
 have AT:=Attr_doc (hd.below b0) n hn kPoints
 have hw0:=(b0.cell (cell_lt hw)).trans hw
 rw [attD_atM] at AT
 have hl:=valM_len hz n kPoints
 unfold polyM
 unfold valM at hl ⊢
 generalize (atM M n kPoints).getD []=s at AT hl ⊢
 generalize (atM M n kPoints).isSome=bo at AT
 have RD:=fun V (hV:NE E V)=>ShRead_any hV s (by omega)
 generalize shapeM s=x at RD ⊢
 have HN:Hid (NE E W):=hN
 clear hd hN
 go_enter Tryz.func118,Tryz.ntmps118
 go_wp2_with (first | (go_at_call 28;refine AT.mono ?_;rintro e w1 ⟨rfl,b1⟩;have R1:=RD w1 (HN.out.below (mbel b0 b1))) | (go_at_call 169;refine R1.mono ?_;rintro e w2 ⟨h2,b2⟩;obtain ⟨ro,rn,rc,rv,rfl⟩:=h2.is;have K2:=((mbel b1 b2).block _ (blk_lt K0)).trans K0;have u0:=bcell K2 0 _ rfl;have uf:=bfrozQ K2 0))
 refine bodyPost_ret (v:=.tuple #[.agg #[.slice ro rn rc],rv]) (by simp [results,Tryz.results118,go_sem,u0]) rfl ⟨h2.far K2,(mbel b0 (mbel b1 b2)).setCell Nat.le.refl _⟩
end
end
section
open Go.RowKit Go.Shelf
set_option maxHeartbeats 8000000
set_option maxRecDepth 20000
theorem Box_rt {E:Nat->Addr} (xn xd yn yd wn wd hn hd:Int) (w:World) (cx0:chk xn xd=0) (cy0:chk yn yd=0) (cw0:chk wn wd=0) (ch0:chk hn hd=0) (hN:NE E w) :
  Calls Tryz.prog 168 #[.agg #[.int .i64 xn,.int .i64 xd],.agg #[.int .i64 yn,.int .i64 yd],.agg #[.int .i64 wn,.int .i64 wd],.agg #[.int .i64 hn,.int .i64 hd]] w fun e W=>ShpR E (boxOfM ⟨xn,xd,0⟩ ⟨yn,yd,0⟩ ⟨wn,wd,0⟩ ⟨hn,hd,0⟩) e W/\Below w.heap.size w W:=by
 obtain ⟨hx1,hx2⟩:=i64_of_chk cx0
 obtain ⟨hy1,hy2⟩:=i64_of_chk cy0
 obtain ⟨hw1,hw2⟩:=i64_of_chk cw0
 obtain ⟨hh1,hh2⟩:=i64_of_chk ch0
 have HNE:Hid (NE E w):=hN
 have hE:=hN.e3
 have HC4:Hid (chk xn xd=0/\chk yn yd=0/\chk wn wd=0/\chk hn hd=0):=⟨cx0,cy0,cw0,ch0⟩
 obtain ⟨ans,hans⟩:∃ a,boxOfM ⟨xn,xd,0⟩ ⟨yn,yd,0⟩ ⟨wn,wd,0⟩ ⟨hn,hd,0⟩=a:=⟨_,rfl⟩
 rw [hans]
 have HAN:Hid (boxOfM ⟨xn,xd,0⟩ ⟨yn,yd,0⟩ ⟨wn,wd,0⟩ ⟨hn,hd,0⟩=ans):=hans
 clear hN cx0 cy0 cw0 ch0 hans
 go_enter Tryz.func168,Tryz.ntmps168
 go_wp2
 obtain ⟨U,hU⟩:∃ U,(((((w.alloc (.cells #[.int .i64 xn,.int .i64 xd] 52)).alloc (.cells #[.int .i64 yn,.int .i64 yd] 52)).alloc (.cells #[.int .i64 wn,.int .i64 wd] 52)).alloc (.cells #[.int .i64 hn,.int .i64 hd] 52)).alloc (.cells #[.slice none 0 0] 43)).alloc (.cells #[.int .i64 xn,.int .i64 xd,.int .i64 yn,.int .i64 yd,.int .i64 wn,.int .i64 wd,.int .i64 hn,.int .i64 hd] 52)=U:=⟨_,rfl⟩
 obtain ⟨k0,k1,k2,k3,k4,k5,hbU⟩:=heap6 w _ _ _ _ _ _ U hU
 rw [hU]
 clear hU
 have hEU:=hE.below hbU Nat.le.refl
 obtain ⟨L,hL⟩:∃ L:List (Int × Int),L=[(xn,xd),(yn,yd),(wn,wd),(hn,hd)]:=⟨_,rfl⟩
 have hLl:L.length=4:=by rw [hL];rfl
 have hLc:∀ j n d,L[j]? = some (n,d)->U.cell? ⟨w.heap.size+1+1+1+1+1,j * 2,none⟩=some (.int .i64 n)/\U.cell? ⟨w.heap.size+1+1+1+1+1,j * 2+1,none⟩=some (.int .i64 d)/\I64 n/\I64 d:=fun j n d hj=>by
  rw [hL] at hj
  match j,hj with
  | 0,hj=>cases hj;exact ⟨bcellQ k5 0 _ rfl,bcellQ k5 1 _ rfl,hx1,hx2⟩
  | 1,hj=>cases hj;exact ⟨bcellQ k5 2 _ rfl,bcellQ k5 3 _ rfl,hy1,hy2⟩
  | 2,hj=>cases hj;exact ⟨bcellQ k5 4 _ rfl,bcellQ k5 5 _ rfl,hw1,hw2⟩
  | 3,hj=>cases hj;exact ⟨bcellQ k5 6 _ rfl,bcellQ k5 7 _ rfl,hh1,hh2⟩
  | (j+4),hj=>simp at hj
 have HL:Hid (L=[(xn,xd),(yn,yd),(wn,wd),(hn,hd)]):=hL
 have HLC:Hid _:=hLc
 have HLL:Hid (L.length=4):=hLl
 clear hL hLc hLl k5
 go_loopw [22] (fun y wr=>∃ k:Nat,k<=4/\y=.int .i64 k/\(∀ j n d,j<k->L[j]? = some (n,d)->chk n d=0)/\Below U.heap.size U wr) (fun y _=>4 - (intOf y).toNat)
 case atStart=>exact ⟨0,by omega,rfl,fun j n d hj=>by omega,Below.refl _ _⟩
 case round=>
  obtain ⟨k,hk,rfl,hall,hb⟩:=hrel
  have HA:Hid (∀ j n d,j<k->L[j]? = some (n,d)->chk n d=0):=hall
  clear hall
  by_cases hlt:k<4
  ·have hlt':(k:Int)<4:=by omega
   obtain ⟨⟨n,d⟩,hnd⟩:∃ x,L[k]? = some x:=⟨_,List.getElem?_eq_getElem (by have:=HLL.out;omega)⟩
   obtain ⟨c0,c1,hn',hd'⟩:=HLC.out k n d hnd
   have c0:=(hb.cell (cell_lt c0)).trans c0
   have c1:=(hb.cell (cell_lt c1)).trans c1
   have HN:Hid (L[k]? = some (n,d)):=hnd
   have hbx:=mbelow wr (.cells #[.int .i64 n,.int .i64 d] 52)
   have hbU2:=bel_more hb hbx
   have CK:=Check_any (E 2) (E 3) (E 2) n d (wr.alloc (.cells #[.int .i64 n,.int .i64 d] 52)) hn' hd' (hEU.below hbU2 Nat.le.refl)
   clear hnd
   by_cases hc:chk n d=0
   ·rw [hc] at CK
    have HC:Hid (chk n d=0):=hc
    clear hc
    go_wp2_with (go_at_call 198;refine CK.mono ?_;rintro e w1 ⟨rfl,b1⟩;simp only [er_0])
    go_roundw
    case rel=>exact ⟨k+1,by omega,by go_num,fun j n' d' hj hj2=>by
     rcases Nat.lt_or_ge j k with h | h
     ·exact HA.out j n' d' h hj2
     ·obtain rfl:j=k:=by omega
      have:=HN.out.symm.trans hj2
      cases this
      exact HC.out,bel_more hbU2 b1⟩
    case measure=>simp [intOf];omega
   ·exfalso
    apply hc
    have h1:=HN.out
    rw [HL.out] at h1
    obtain ⟨q1,q2,q3,q4⟩:=HC4.out
    match k,h1 with
    | 0,h1=>cases h1;exact q1
    | 1,h1=>cases h1;exact q2
    | 2,h1=>cases h1;exact q3
    | 3,h1=>cases h1;exact q4
    | (j+4),h1=>simp at h1
  ·obtain rfl:k=4:=by omega
   have h4:=HA.out
   rw [HL.out] at h4
   have cx:chk xn xd=0:=h4 0 xn xd (by omega) rfl
   have cy:chk yn yd=0:=h4 1 yn yd (by omega) rfl
   have cw:chk wn wd=0:=h4 2 wn wd (by omega) rfl
   have ch:chk hn hd=0:=h4 3 hn hd (by omega) rfl
   clear h4 HA
   have hEr:=hEU.below hb Nat.le.refl
   have lt:=fun {b:Nat} {o:Obj} (h:U.heap[b]? = some o)=>(Array.getElem?_eq_some_iff.1 h).1
   have j0:=(hb.block _ (lt k0)).trans k0
   have j1:=(hb.block _ (lt k1)).trans k1
   have j2:=(hb.block _ (lt k2)).trans k2
   have j3:=(hb.block _ (lt k3)).trans k3
   have j4:=(hb.block _ (lt k4)).trans k4
   have bWr:=bel_more hbU hb
   clear lt k0 k1 k2 k3 k4 HL HLC HLL
   have AX:=AddF_any (E 2) (E 3) (E 2) xn xd wn wd wr hx1 hx2 hw1 hw2 hEr
   have a0:=bcellQ j0 0 _ rfl
   have a1:=bcellQ j0 1 _ rfl
   have a2:=bcellQ j2 0 _ rfl
   have a3:=bcellQ j2 1 _ rfl
   obtain ⟨Xn,Xd,c,hadd⟩:∃ n d c,add xn xd wn wd=⟨n,d,c⟩:=⟨_,_,_,rfl⟩
   rw [hadd] at AX
   have HX:Hid (add xn xd wn wd=⟨Xn,Xd,c⟩):=hadd
   clear hadd
   go_upto_region 9 with (go_at_call 215;refine AX.mono ?_;rintro e w1 ⟨rfl,b1⟩)
   have hc1:=add_c cx cw
   rw [HX.out] at hc1
   have hc1:c=0\/c=2:=hc1
   have b2:=mbelow w1 (.cells #[.int .i64 Xn,.int .i64 Xd] 52)
   have kX:=World.alloc_heap_new w1 (.cells #[.int .i64 Xn,.int .i64 Xd] 52)
   obtain ⟨V,hV⟩:∃ V,w1.alloc (.cells #[.int .i64 Xn,.int .i64 Xd] 52)=V:=⟨_,rfl⟩
   obtain ⟨BX,hBX⟩:∃ B,w1.heap.size=B:=⟨_,rfl⟩
   rw [hV] at b2 kX ⊢
   have bV:=bel_more b1 b2
   rw [hBX] at kX ⊢
   clear hV hBX b2 b1 AX a0 a1 a2 a3
   have lt:=fun {b:Nat} {o:Obj} (h:wr.heap[b]? = some o)=>(Array.getElem?_eq_some_iff.1 h).1
   have j0:=(bV.block _ (lt j0)).trans j0
   have j1:=(bV.block _ (lt j1)).trans j1
   have j3:=(bV.block _ (lt j3)).trans j3
   have j4:=(bV.block _ (lt j4)).trans j4
   have bWV:=bel_more bWr bV
   have hEV:=hEr.below bV Nat.le.refl
   clear lt
   have f4:=bfrozQ j4 0
   have q4:=bcellQ j4 0 _ rfl
   rcases hc1 with rfl | rfl
   ·simp only [er_0]
    have AY:=AddF_any (E 2) (E 3) (E 2) yn yd hn hd V hy1 hy2 hh1 hh2 hEV
    obtain ⟨Yn,Yd,c,hadd⟩:∃ n d c,add yn yd hn hd=⟨n,d,c⟩:=⟨_,_,_,rfl⟩
    rw [hadd] at AY
    have HY:Hid (add yn yd hn hd=⟨Yn,Yd,c⟩):=hadd
    clear hadd
    have a0:=bcellQ j1 0 _ rfl
    have a1:=bcellQ j1 1 _ rfl
    have a2:=bcellQ j3 0 _ rfl
    have a3:=bcellQ j3 1 _ rfl
    go_upto_region 12 with (go_at_call 215;refine AY.mono ?_;rintro e w2 ⟨rfl,b3⟩)
    have hc2:=add_c cy ch
    rw [HY.out] at hc2
    have hc2:c=0\/c=2:=hc2
    have b4:=mbelow w2 (.cells #[.int .i64 Yn,.int .i64 Yd] 52)
    have kY:=World.alloc_heap_new w2 (.cells #[.int .i64 Yn,.int .i64 Yd] 52)
    obtain ⟨V2,hV2⟩:∃ V,w2.alloc (.cells #[.int .i64 Yn,.int .i64 Yd] 52)=V:=⟨_,rfl⟩
    obtain ⟨BY,hBY⟩:∃ B,w2.heap.size=B:=⟨_,rfl⟩
    rw [hV2] at b4 kY ⊢
    have bV2:=bel_more b3 b4
    rw [hBY] at kY ⊢
    clear hV2 hBY b4 b3 AY a0 a1 a2 a3 q4 f4
    have lt:=fun {b:Nat} {o:Obj} (h:V.heap[b]? = some o)=>(Array.getElem?_eq_some_iff.1 h).1
    have j0:=(bV2.block _ (lt j0)).trans j0
    have j1:=(bV2.block _ (lt j1)).trans j1
    have j4:=(bV2.block _ (lt j4)).trans j4
    have kX:=(bV2.block _ (lt kX)).trans kX
    have bWV2:=bel_more bWV bV2
    have hEV2:=hEV.below bV2 Nat.le.refl
    clear lt
    rcases hc2 with rfl | rfl
    ·simp only [er_0]
     have cX:=(add_some.1 HX.out).2.2.1
     have cY:=(add_some.1 HY.out).2.2.1
     have iX:=i64_of_chk cX
     have iY:=i64_of_chk cY
     have x0:=bcellQ j0 0 _ rfl
     have x1:=bcellQ j0 1 _ rfl
     have y0:=bcellQ j1 0 _ rfl
     have y1:=bcellQ j1 1 _ rfl
     have X0:=bcellQ kX 0 _ rfl
     have X1:=bcellQ kX 1 _ rfl
     have Y0:=bcellQ kY 0 _ rfl
     have Y1:=bcellQ kY 1 _ rfl
     have b5:=mbelow V2 (.cells #[.int .i64 xn,.int .i64 xd,.int .i64 yn,.int .i64 yd,.int .i64 Xn,.int .i64 Xd,.int .i64 yn,.int .i64 yd,.int .i64 Xn,.int .i64 Xd,.int .i64 Yn,.int .i64 Yd,.int .i64 xn,.int .i64 xd,.int .i64 Yn,.int .i64 Yd] 121)
     have kL:=World.alloc_heap_new V2 (.cells #[.int .i64 xn,.int .i64 xd,.int .i64 yn,.int .i64 yd,.int .i64 Xn,.int .i64 Xd,.int .i64 yn,.int .i64 yd,.int .i64 Xn,.int .i64 Xd,.int .i64 Yn,.int .i64 Yd,.int .i64 xn,.int .i64 xd,.int .i64 Yn,.int .i64 Yd] 121)
     have hP:=pts_four (a0:=⟨xn,xd,yn,yd⟩) (a1:=⟨Xn,Xd,yn,yd⟩) (a2:=⟨Xn,Xd,Yn,Yd⟩) (a3:=⟨xn,xd,Yn,Yd⟩) kL ⟨hx1,hx2,hy1,hy2⟩ ⟨iX.1,iX.2,hy1,hy2⟩ ⟨iX.1,iX.2,iY.1,iY.2⟩ ⟨hx1,hx2,iY.1,iY.2⟩
     have hR4:∀ y ∈ boxL xn xd yn yd Xn Xd Yn Yd,chkP y=0:=fun y hy=>by
      simp only [boxL,List.mem_cons,List.not_mem_nil,or_false] at hy
      rcases hy with rfl | rfl | rfl | rfl
      ·exact chkP_zero.2 ⟨cx,cy⟩
      ·exact chkP_zero.2 ⟨cX,cy⟩
      ·exact chkP_zero.2 ⟨cX,cY⟩
      ·exact chkP_zero.2 ⟨cx,cY⟩
     have CK:=checked_rt (boxL xn xd yn yd Xn Xd Yn Yd) hR4 (some ⟨V2.heap.size,0,none⟩) 4 _ hP (HNE.out.below (bel_more bWV2 b5))
     have HR4:Hid (∀ y ∈ boxL xn xd yn yd Xn Xd Yn Yd,chkP y=0):=hR4
     clear hR4
     have j4':=(b5.block _ (Array.getElem?_eq_some_iff.1 j4).1).trans j4
     go_wp2_with (go_at_call 216;refine CK.mono ?_;rintro e w3 ⟨hck,b6⟩;have j4'':=(b6.block _ (Array.getElem?_eq_some_iff.1 j4').1).trans j4';have q4:=bcellQ j4'' 0 _ rfl;have f4:=bfrozQ j4'' 0;obtain ⟨os,ns,cs,v,rfl,hsv⟩:∃ os ns cs v,e=.returned (.tuple #[.agg #[.slice os ns cs],v])/\((okB (boxL xn xd yn yd Xn Xd Yn Yd)=true/\os=some ⟨V2.heap.size,0,none⟩/\ns=4/\cs=4/\v=.nilIface)\/(okB (boxL xn xd yn yd Xn Xd Yn Yd)=false/\os=none/\ns=0/\cs=0/\ErC E 2 v w3)):=(by rcases hck with ⟨h1,rfl⟩ | ⟨h1,v,rfl,h2⟩;exact ⟨_,_,_,_,rfl,.inl ⟨h1,rfl,rfl,rfl,rfl⟩⟩;exact ⟨_,_,_,_,rfl,.inr ⟨h1,rfl,rfl,rfl,h2⟩⟩))
     have d4:(w3.setCell ⟨w.heap.size+1+1+1+1,0,none⟩ (.slice os ns cs)).cell? ⟨w.heap.size+1+1+1+1,0,none⟩=some (.slice os ns cs):=World.cell?_setCell_same' _ _ _ (by rw [q4];rfl)
     have bz:=bel_more (bel_more bWV2 b5) b6
     refine bodyPost_ret (v:=.tuple #[.agg #[.slice os ns cs],v]) (by simp [results,Tryz.results168,go_sem,d4]) rfl ⟨?_,bz.setCell (by simp;omega) _⟩
     rcases hsv with ⟨hok,rfl,rfl,rfl,rfl⟩ | ⟨hok,rfl,rfl,rfl,hv⟩
     ·rw [<- HAN.out]
      unfold boxOfM
      simp only [HX.out,HY.out,hok,and_self,if_true]
      refine ⟨HR4.out,hok,_,_,rfl,?_⟩
      have hP3:=hP.below b6 Nat.le.refl
      have hne:V2.heap.size≠w.heap.size+1+1+1+1:=by have:=(Array.getElem?_eq_some_iff.1 j4).1;omega
      intro i a ha
      obtain ⟨b,off,h1,c0,c1,c2,c3,hpi⟩:=hP3 i a ha
      cases h1
      have far:∀ k v,w3.cell? ⟨V2.heap.size,k,none⟩=some v->(w3.setCell ⟨w.heap.size+1+1+1+1,0,none⟩ (.slice (some ⟨V2.heap.size,0,none⟩) 4 4)).cell? ⟨V2.heap.size,k,none⟩=some v:=fun k v hv=>by
       rw [World.cell?_setCell_far _ _ _ _ (by simp;exact fun e=>hne e.symm)]
       exact hv
      exact ⟨_,0,rfl,far _ _ c0,far _ _ c1,far _ _ c2,far _ _ c3,hpi⟩
     ·rw [<- HAN.out]
      unfold boxOfM
      simp only [HX.out,HY.out,hok,and_false,if_false,Bool.false_eq_true]
      exact ⟨v,rfl,hv.far⟩
    ·have e2:er (E 2) (E 3) (E 2) 2=.iface 409 (.pointer (some (E 2))):=rfl
     simp only [e2]
     have f4:=bfrozQ j4 0
     have q4:=bcellQ j4 0 _ rfl
     have d4:(V2.setCell ⟨w.heap.size+1+1+1+1,0,none⟩ (.slice none 0 0)).cell? ⟨w.heap.size+1+1+1+1,0,none⟩=some (.slice none 0 0):=World.cell?_setCell_same' _ _ _ (by rw [q4];rfl)
     go_wp2_with fail
     exact bodyPost_ret (v:=.tuple #[.agg #[.slice none 0 0],.iface 409 (.pointer (some (E 2)))]) (by simp [results,Tryz.results168,go_sem,d4]) rfl ⟨by rw [<- HAN.out];unfold boxOfM;rw [if_neg (by rw [HY.out];simp)];exact ⟨_,rfl,by decide,by decide,.inl rfl⟩,bWV2.setCell (by simp;omega) _⟩
   ·have e2:er (E 2) (E 3) (E 2) 2=.iface 409 (.pointer (some (E 2))):=rfl
    simp only [e2]
    have f4:=bfrozQ j4 0
    have q4:=bcellQ j4 0 _ rfl
    have d4:(V.setCell ⟨w.heap.size+1+1+1+1,0,none⟩ (.slice none 0 0)).cell? ⟨w.heap.size+1+1+1+1,0,none⟩=some (.slice none 0 0):=World.cell?_setCell_same' _ _ _ (by rw [q4];rfl)
    go_wp2_with fail
    exact bodyPost_ret (v:=.tuple #[.agg #[.slice none 0 0],.iface 409 (.pointer (some (E 2)))]) (by simp [results,Tryz.results168,go_sem,d4]) rfl ⟨by rw [<- HAN.out];unfold boxOfM;rw [if_neg (by rw [HX.out];simp)];exact ⟨_,rfl,by decide,by decide,.inl rfl⟩,bWV.setCell (by simp;omega) _⟩
end
section
open Go.RowKit Go.Shelf
set_option maxHeartbeats 8000000
set_option maxRecDepth 20000
theorem Blk.setS {w:World} {R:Nat} {cs:Array Value} {t:TypeId} (h:Blk w R cs t) (i:Nat) (v:Value):Blk (w.setCell ⟨R,i,none⟩ v) R (cs.setIfInBounds i v) t:=⟨heap_setCell_same w R i cs t v h.h⟩
theorem Blk.put2 {w:World} {R:Nat} {cs:Array Value} {t:TypeId} (h:Blk w R cs t) (i:Nat) (a b:Value):Blk ((w.setCell ⟨R,i,none⟩ a).setCell ⟨R,i+1,none⟩ b) R ((cs.setIfInBounds i a).setIfInBounds (i+1) b) t:=(h.setS i a).setS (i+1) b
theorem fracM_chk (M:Dm) (n:Int) (nm:Bs) (h:(fracM M n nm).c=0):chk (fracM M n nm).n (fracM M n nm).d=0:=by
 unfold fracM at h ⊢
 cases ha:atM M n nm with
 | none=>exact chk_whole (by decide) (by decide)
 | some s=>rw [ha] at h;exact rd_ok h
theorem fracM_err (M:Dm) (n:Int) (nm:Bs):(fracM M n nm).c=0\/(fracM M n nm).c=1\/(fracM M n nm).c=2\/(fracM M n nm).c=3:=by
 unfold fracM
 cases ha:atM M n nm with
 | none=>exact .inl rfl
 | some s=>exact rd_err s
def boxAns (fx fy fu fv:R3) (ans:Except Nat (List Qt)):Except Nat (List Qt):=if fx.c≠0 then .error fx.c else if fy.c≠0 then .error fy.c else if fu.c≠0 then .error fu.c else if fv.c≠0 then .error fv.c else ans
section
variable {E:Nat->Addr} {B:Nat} {tg:Tags} {W:World} {DB MB:Nat} {p:Int->Option Nat} {M:Dm} {nx c:Nat}
theorem boxOf_walk (WB:Nat) (n:Int) (fx fy fu fv:R3) (ans:Except Nat (List Qt)) (hN:NE E W)
  (hx:fx.c=0\/fx.c=1\/fx.c=2\/fx.c=3) (hy:fy.c=0\/fy.c=1\/fy.c=2\/fy.c=3) (hu:fu.c=0\/fu.c=1\/fu.c=2\/fu.c=3) (hv:fv.c=0\/fv.c=1\/fv.c=2\/fv.c=3)
  (F0:∀ V,Below W.heap.size W V->Calls Tryz.prog 167 #[.pointer (some ⟨WB,0,none⟩),.int .i64 n,.string ⟨#[120]⟩] V fun e w'=>e=.returned (.tuple #[.agg #[.int .i64 fx.n,.int .i64 fx.d],er4 (E 1) (E 2) (E 3) (E 2) fx.c])/\Below V.heap.size V w')
  (F1:∀ V,Below W.heap.size W V->Calls Tryz.prog 167 #[.pointer (some ⟨WB,0,none⟩),.int .i64 n,.string ⟨#[121]⟩] V fun e w'=>e=.returned (.tuple #[.agg #[.int .i64 fy.n,.int .i64 fy.d],er4 (E 1) (E 2) (E 3) (E 2) fy.c])/\Below V.heap.size V w')
  (F2:∀ V,Below W.heap.size W V->Calls Tryz.prog 167 #[.pointer (some ⟨WB,0,none⟩),.int .i64 n,.string ⟨#[119]⟩] V fun e w'=>e=.returned (.tuple #[.agg #[.int .i64 fu.n,.int .i64 fu.d],er4 (E 1) (E 2) (E 3) (E 2) fu.c])/\Below V.heap.size V w')
  (F3:∀ V,Below W.heap.size W V->Calls Tryz.prog 167 #[.pointer (some ⟨WB,0,none⟩),.int .i64 n,.string ⟨#[104]⟩] V fun e w'=>e=.returned (.tuple #[.agg #[.int .i64 fv.n,.int .i64 fv.d],er4 (E 1) (E 2) (E 3) (E 2) fv.c])/\Below V.heap.size V w')
  (FB:fx.c=0->fy.c=0->fu.c=0->fv.c=0->∀ V,NE E V->Calls Tryz.prog 168 #[.agg #[.int .i64 fx.n,.int .i64 fx.d],.agg #[.int .i64 fy.n,.int .i64 fy.d],.agg #[.int .i64 fu.n,.int .i64 fu.d],.agg #[.int .i64 fv.n,.int .i64 fv.d]] V fun e w'=>ShpR E ans e w'/\Below V.heap.size V w') :
  Calls Tryz.prog 117 #[.pointer (some ⟨WB,0,none⟩),.int .i64 n] W fun e w'=>ShpR E (boxAns fx fy fu fv ans) e w'/\Below W.heap.size W w':=by
 have b0:=mal W (.cells #[.slice none 0 0] 43)
 have K0:=mbox W #[.slice none 0 0] 43
 have b1:=mal (W.alloc (.cells #[.slice none 0 0] 43)) (.cells #[.int .i64 0,.int .i64 0,.int .i64 0,.int .i64 0,.int .i64 0,.int .i64 0,.int .i64 0,.int .i64 0] 239)
 have S0:=Blk.new (W.alloc (.cells #[.slice none 0 0] 43)) #[.int .i64 0,.int .i64 0,.int .i64 0,.int .i64 0,.int .i64 0,.int .i64 0,.int .i64 0,.int .i64 0] 239
 have K1:=(b1.block _ (blk_lt K0)).trans K0
 have bV:=mbel b0 b1
 have hsz:(W.alloc (.cells #[.slice none 0 0] 43)).heap.size=W.heap.size+1:=by simp
 rw [hsz] at S0
 clear hsz b0 b1 K0
 have HN:Hid (NE E W):=hN
 clear hN
 go_enter Tryz.func117,Tryz.ntmps117
 go_upto_region 3 with fail
 obtain ⟨V0,hV0⟩:∃ V,(W.alloc (.cells #[.slice none 0 0] 43)).alloc (.cells #[.int .i64 0,.int .i64 0,.int .i64 0,.int .i64 0,.int .i64 0,.int .i64 0,.int .i64 0,.int .i64 0] 239)=V:=⟨_,rfl⟩
 rw [hV0] at S0 K1 bV ⊢
 clear hV0
 have x0:∀ w:World,(Instr.index 240 (.agg #[.string ⟨#[120]⟩,.string ⟨#[121]⟩,.string ⟨#[119]⟩,.string ⟨#[104]⟩]) (.int .i64 0)).run Tryz.prog w=.ok (.string ⟨#[120]⟩) w:=fun w=>by kernel_rfl
 have x1:∀ w:World,(Instr.index 240 (.agg #[.string ⟨#[120]⟩,.string ⟨#[121]⟩,.string ⟨#[119]⟩,.string ⟨#[104]⟩]) (.int .i64 1)).run Tryz.prog w=.ok (.string ⟨#[121]⟩) w:=fun w=>by kernel_rfl
 have x2:∀ w:World,(Instr.index 240 (.agg #[.string ⟨#[120]⟩,.string ⟨#[121]⟩,.string ⟨#[119]⟩,.string ⟨#[104]⟩]) (.int .i64 2)).run Tryz.prog w=.ok (.string ⟨#[119]⟩) w:=fun w=>by kernel_rfl
 have x3:∀ w:World,(Instr.index 240 (.agg #[.string ⟨#[120]⟩,.string ⟨#[121]⟩,.string ⟨#[119]⟩,.string ⟨#[104]⟩]) (.int .i64 3)).run Tryz.prog w=.ok (.string ⟨#[104]⟩) w:=fun w=>by kernel_rfl
 refine wp_loop_rounds 5 ?_
 rw [rounds_succ]
 have C0:=F0 V0 bV
 by_cases g0:fx.c=0
 rotate_left
 ·have h3:fx.c=1\/fx.c=2\/fx.c=3:=hx.resolve_left g0
  rw [er4_eV h3] at C0
  have H3:Hid (fx.c=1\/fx.c=2\/fx.c=3):=h3
  have HA:Hid (¬ fx.c=0):=g0
  clear h3
  go_wp2_with (go_at_call 167;refine C0.mono ?_;rintro e w1 ⟨rfl,b2⟩;have Kw:=((mbel b2 (mal w1 (.cells #[.int .i64 fx.n,.int .i64 fx.d] 52))).block _ (blk_lt K1)).trans K1;have u0:=bcell Kw 0 _ rfl;have uf:=bfrozQ Kw 0)
  refine bodyPost_ret (v:=.tuple #[.agg #[.slice none 0 0],eV (E fx.c)]) (by simp [results,Tryz.results117,go_sem,u0]) rfl ⟨?_,(mbel bV (mbel b2 (mal w1 _))).setCell Nat.le.refl _⟩
  unfold boxAns
  rw [if_pos HA.out]
  exact ⟨_,rfl,by have:=H3.out;omega,by have:=H3.out;omega,.inl rfl⟩
 rw [g0,er4_nil] at C0
 go_wp2_with (go_at_call 167;refine C0.mono ?_;rintro e w1 ⟨rfl,b2⟩;have b3:=mbel b2 (mal w1 (.cells #[.int .i64 fx.n,.int .i64 fx.d] 52));have T1:=(b3.block _ S0.lt).trans S0.h;have u0:=bcellQ T1 0 _ rfl;have u1:=bcellQ T1 1 _ rfl;have v0:=bfrozQ T1 0;have v1:=bfrozQ T1 1)
 obtain ⟨V1,hV1⟩:∃ V,(((w1.alloc (.cells #[.int .i64 fx.n,.int .i64 fx.d] 52)).setCell ⟨W.heap.size+1,0,none⟩ (.int .i64 fx.n)).setCell ⟨W.heap.size+1,1,none⟩ (.int .i64 fx.d))=V:=⟨_,rfl⟩
 have S0:Blk V1 (W.heap.size+1) #[.int .i64 fx.n,.int .i64 fx.d,.int .i64 0,.int .i64 0,.int .i64 0,.int .i64 0,.int .i64 0,.int .i64 0] 239:=by
  rw [<- hV1]
  exact (Blk.mk T1).put2 0 _ _
 have K1:V1.heap[W.heap.size]? = some (.cells #[.slice none 0 0] 43):=by
  rw [<- hV1,Below.heap_setCell _ _ _ _ (by simp),Below.heap_setCell _ _ _ _ (by simp)]
  exact (b3.block _ (blk_lt K1)).trans K1
 have bV:Below W.heap.size W V1:=by
  rw [<- hV1]
  exact ((mbel bV b3).setCell (by simp) _).setCell (by simp) _
 rw [hV1]
 clear hV1 T1 u0 u1 v0 v1 b2 b3 C0
 rw [rounds_succ]
 have C1:=F1 V1 bV
 by_cases g1:fy.c=0
 rotate_left
 ·have h3:fy.c=1\/fy.c=2\/fy.c=3:=hy.resolve_left g1
  rw [er4_eV h3] at C1
  have H3:Hid (fy.c=1\/fy.c=2\/fy.c=3):=h3
  have HA:Hid (¬ fy.c=0):=g1
  clear h3
  go_wp2_with (go_at_call 167;refine C1.mono ?_;rintro e w1 ⟨rfl,b2⟩;have Kw:=((mbel b2 (mal w1 (.cells #[.int .i64 fy.n,.int .i64 fy.d] 52))).block _ (blk_lt K1)).trans K1;have u0:=bcell Kw 0 _ rfl;have uf:=bfrozQ Kw 0)
  refine bodyPost_ret (v:=.tuple #[.agg #[.slice none 0 0],eV (E fy.c)]) (by simp [results,Tryz.results117,go_sem,u0]) rfl ⟨?_,(mbel bV (mbel b2 (mal w1 _))).setCell Nat.le.refl _⟩
  unfold boxAns
  rw [if_neg (by simp [g0]),if_pos HA.out]
  exact ⟨_,rfl,by have:=H3.out;omega,by have:=H3.out;omega,.inl rfl⟩
 rw [g1,er4_nil] at C1
 go_wp2_with (go_at_call 167;refine C1.mono ?_;rintro e w1 ⟨rfl,b2⟩;have b3:=mbel b2 (mal w1 (.cells #[.int .i64 fy.n,.int .i64 fy.d] 52));have T1:=(b3.block _ S0.lt).trans S0.h;have u0:=bcellQ T1 2 _ rfl;have u1:=bcellQ T1 3 _ rfl;have v0:=bfrozQ T1 2;have v1:=bfrozQ T1 3)
 obtain ⟨V2,hV2⟩:∃ V,(((w1.alloc (.cells #[.int .i64 fy.n,.int .i64 fy.d] 52)).setCell ⟨W.heap.size+1,2,none⟩ (.int .i64 fy.n)).setCell ⟨W.heap.size+1,3,none⟩ (.int .i64 fy.d))=V:=⟨_,rfl⟩
 have S0:Blk V2 (W.heap.size+1) #[.int .i64 fx.n,.int .i64 fx.d,.int .i64 fy.n,.int .i64 fy.d,.int .i64 0,.int .i64 0,.int .i64 0,.int .i64 0] 239:=by
  rw [<- hV2]
  exact (Blk.mk T1).put2 2 _ _
 have K1:V2.heap[W.heap.size]? = some (.cells #[.slice none 0 0] 43):=by
  rw [<- hV2,Below.heap_setCell _ _ _ _ (by simp),Below.heap_setCell _ _ _ _ (by simp)]
  exact (b3.block _ (blk_lt K1)).trans K1
 have bV:Below W.heap.size W V2:=by
  rw [<- hV2]
  exact ((mbel bV b3).setCell (by simp) _).setCell (by simp) _
 rw [hV2]
 clear hV2 T1 u0 u1 v0 v1 b2 b3 C1
 rw [rounds_succ]
 have C2:=F2 V2 bV
 by_cases g2:fu.c=0
 rotate_left
 ·have h3:fu.c=1\/fu.c=2\/fu.c=3:=hu.resolve_left g2
  rw [er4_eV h3] at C2
  have H3:Hid (fu.c=1\/fu.c=2\/fu.c=3):=h3
  have HA:Hid (¬ fu.c=0):=g2
  clear h3
  go_wp2_with (go_at_call 167;refine C2.mono ?_;rintro e w1 ⟨rfl,b2⟩;have Kw:=((mbel b2 (mal w1 (.cells #[.int .i64 fu.n,.int .i64 fu.d] 52))).block _ (blk_lt K1)).trans K1;have u0:=bcell Kw 0 _ rfl;have uf:=bfrozQ Kw 0)
  refine bodyPost_ret (v:=.tuple #[.agg #[.slice none 0 0],eV (E fu.c)]) (by simp [results,Tryz.results117,go_sem,u0]) rfl ⟨?_,(mbel bV (mbel b2 (mal w1 _))).setCell Nat.le.refl _⟩
  unfold boxAns
  rw [if_neg (by simp [g0]),if_neg (by simp [g1]),if_pos HA.out]
  exact ⟨_,rfl,by have:=H3.out;omega,by have:=H3.out;omega,.inl rfl⟩
 rw [g2,er4_nil] at C2
 go_wp2_with (go_at_call 167;refine C2.mono ?_;rintro e w1 ⟨rfl,b2⟩;have b3:=mbel b2 (mal w1 (.cells #[.int .i64 fu.n,.int .i64 fu.d] 52));have T1:=(b3.block _ S0.lt).trans S0.h;have u0:=bcellQ T1 4 _ rfl;have u1:=bcellQ T1 5 _ rfl;have v0:=bfrozQ T1 4;have v1:=bfrozQ T1 5)
 obtain ⟨V3,hV3⟩:∃ V,(((w1.alloc (.cells #[.int .i64 fu.n,.int .i64 fu.d] 52)).setCell ⟨W.heap.size+1,4,none⟩ (.int .i64 fu.n)).setCell ⟨W.heap.size+1,5,none⟩ (.int .i64 fu.d))=V:=⟨_,rfl⟩
 have S0:Blk V3 (W.heap.size+1) #[.int .i64 fx.n,.int .i64 fx.d,.int .i64 fy.n,.int .i64 fy.d,.int .i64 fu.n,.int .i64 fu.d,.int .i64 0,.int .i64 0] 239:=by
  rw [<- hV3]
  exact (Blk.mk T1).put2 4 _ _
 have K1:V3.heap[W.heap.size]? = some (.cells #[.slice none 0 0] 43):=by
  rw [<- hV3,Below.heap_setCell _ _ _ _ (by simp),Below.heap_setCell _ _ _ _ (by simp)]
  exact (b3.block _ (blk_lt K1)).trans K1
 have bV:Below W.heap.size W V3:=by
  rw [<- hV3]
  exact ((mbel bV b3).setCell (by simp) _).setCell (by simp) _
 rw [hV3]
 clear hV3 T1 u0 u1 v0 v1 b2 b3 C2
 rw [rounds_succ]
 have C3:=F3 V3 bV
 by_cases g3:fv.c=0
 rotate_left
 ·have h3:fv.c=1\/fv.c=2\/fv.c=3:=hv.resolve_left g3
  rw [er4_eV h3] at C3
  have H3:Hid (fv.c=1\/fv.c=2\/fv.c=3):=h3
  have HA:Hid (¬ fv.c=0):=g3
  clear h3
  go_wp2_with (go_at_call 167;refine C3.mono ?_;rintro e w1 ⟨rfl,b2⟩;have Kw:=((mbel b2 (mal w1 (.cells #[.int .i64 fv.n,.int .i64 fv.d] 52))).block _ (blk_lt K1)).trans K1;have u0:=bcell Kw 0 _ rfl;have uf:=bfrozQ Kw 0)
  refine bodyPost_ret (v:=.tuple #[.agg #[.slice none 0 0],eV (E fv.c)]) (by simp [results,Tryz.results117,go_sem,u0]) rfl ⟨?_,(mbel bV (mbel b2 (mal w1 _))).setCell Nat.le.refl _⟩
  unfold boxAns
  rw [if_neg (by simp [g0]),if_neg (by simp [g1]),if_neg (by simp [g2]),if_pos HA.out]
  exact ⟨_,rfl,by have:=H3.out;omega,by have:=H3.out;omega,.inl rfl⟩
 rw [g3,er4_nil] at C3
 go_wp2_with (go_at_call 167;refine C3.mono ?_;rintro e w1 ⟨rfl,b2⟩;have b3:=mbel b2 (mal w1 (.cells #[.int .i64 fv.n,.int .i64 fv.d] 52));have T1:=(b3.block _ S0.lt).trans S0.h;have u0:=bcellQ T1 6 _ rfl;have u1:=bcellQ T1 7 _ rfl;have v0:=bfrozQ T1 6;have v1:=bfrozQ T1 7)
 obtain ⟨V4,hV4⟩:∃ V,(((w1.alloc (.cells #[.int .i64 fv.n,.int .i64 fv.d] 52)).setCell ⟨W.heap.size+1,6,none⟩ (.int .i64 fv.n)).setCell ⟨W.heap.size+1,7,none⟩ (.int .i64 fv.d))=V:=⟨_,rfl⟩
 have S0:Blk V4 (W.heap.size+1) #[.int .i64 fx.n,.int .i64 fx.d,.int .i64 fy.n,.int .i64 fy.d,.int .i64 fu.n,.int .i64 fu.d,.int .i64 fv.n,.int .i64 fv.d] 239:=by
  rw [<- hV4]
  exact (Blk.mk T1).put2 6 _ _
 have K1:V4.heap[W.heap.size]? = some (.cells #[.slice none 0 0] 43):=by
  rw [<- hV4,Below.heap_setCell _ _ _ _ (by simp),Below.heap_setCell _ _ _ _ (by simp)]
  exact (b3.block _ (blk_lt K1)).trans K1
 have bV:Below W.heap.size W V4:=by
  rw [<- hV4]
  exact ((mbel bV b3).setCell (by simp) _).setCell (by simp) _
 rw [hV4]
 clear hV4 T1 u0 u1 v0 v1 b2 b3 C3
 rw [rounds_succ]
 have BX:=FB g0 g1 g2 g3 V4 (HN.out.below bV)
 have s0:=S0.cell 0 _ rfl
 have s1:=S0.cell 1 _ rfl
 have s2:=S0.cell 2 _ rfl
 have s3:=S0.cell 3 _ rfl
 have s4:=S0.cell 4 _ rfl
 have s5:=S0.cell 5 _ rfl
 have s6:=S0.cell 6 _ rfl
 have s7:=S0.cell 7 _ rfl
 have HG:Hid (fx.c=0/\fy.c=0/\fu.c=0/\fv.c=0):=⟨g0,g1,g2,g3⟩
 clear g0 g1 g2 g3
 go_wp2_with (go_at_call 168;refine BX.mono ?_;rintro e w2 ⟨h2,b2⟩;obtain ⟨ro,rn,rc,rv,rfl⟩:=h2.is;have K2:=(b2.block _ (blk_lt K1)).trans K1;have u0:=bcell K2 0 _ rfl;have uf:=bfrozQ K2 0)
 refine bodyPost_ret (v:=.tuple #[.agg #[.slice ro rn rc],rv]) (by simp [results,Tryz.results117,go_sem,u0]) rfl ⟨?_,(mbel bV b2).setCell Nat.le.refl _⟩
 obtain ⟨g0,g1,g2,g3⟩:=HG.out
 unfold boxAns
 rw [if_neg (by simp [g0]),if_neg (by simp [g1]),if_neg (by simp [g2]),if_neg (by simp [g3])]
 exact h2.far K2
theorem boxOf_any (hN:NE E W) (hd:DocW B tg W DB MB p M nx c) (hz:SzD M) (WB:Nat) (hw:W.cell? ⟨WB,0,none⟩=some (.pointer (some ⟨DB,0,none⟩))) (n:Int) (hn:Wf64 n) :
  Calls Tryz.prog 117 #[.pointer (some ⟨WB,0,none⟩),.int .i64 n] W fun e w'=>ShpR E (boxM M n) e w'/\Below W.heap.size W w':=by
 have F:=fun (nm:Bs) V (hV:Below W.heap.size W V)=>fracOf_any (hN.below hV) (hd.below hV) hz WB ((hV.cell (cell_lt hw)).trans hw) n hn nm
 exact boxOf_walk WB n (fracM M n [120]) (fracM M n [121]) (fracM M n [119]) (fracM M n [104]) (boxOfM (fracM M n [120]) (fracM M n [121]) (fracM M n [119]) (fracM M n [104])) hN (fracM_err _ _ _) (fracM_err _ _ _) (fracM_err _ _ _) (fracM_err _ _ _) (F [120]) (F [121]) (F [119]) (F [104])
  (fun h0 h1 h2 h3 V hV=>Box_rt _ _ _ _ _ _ _ _ V (fracM_chk _ _ _ h0) (fracM_chk _ _ _ h1) (fracM_chk _ _ _ h2) (fracM_chk _ _ _ h3) hV)
end
end
end Go.Proofs.YtgphclgmmocdhaaGreatDoor

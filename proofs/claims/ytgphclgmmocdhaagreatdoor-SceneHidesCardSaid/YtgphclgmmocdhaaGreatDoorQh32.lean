/-
  Parts of the proof.
-/
import Derived.Lib.AppendIntMem
import Derived.Lib.ItoaLen
import Derived.Test.YtgphclgmmocdhaaGreatDoorQh31
namespace Go.Proofs.YtgphclgmmocdhaaGreatDoor
section
open Go.RowKit
def mk (n d:Int):R3:=if d=0 then ⟨0,0,11⟩ else if isBig n=true\/isBig d=true then ⟨0,0,2⟩ else low n d
theorem gPow:Tryz.prog.globalNamed "internal/strconv.uint64pow10" = some 14:=by kernel_rfl
theorem tab_below {w w':World} {B:Nat} (h:Lib.TabIs Tryz.prog w "internal/strconv.uint64pow10" .u64 Lib.pow10Tab) (hb:Below B w w') (hB:w.heap.size<=B):Lib.TabIs Tryz.prog w' "internal/strconv.uint64pow10" .u64 Lib.pow10Tab:=
 var?_below hb gPow (Nat.lt_of_lt_of_le (cell_lt (h.cell gPow 0 (by simp [Lib.pow10Tab]))) hB) h
theorem Itoa_any (n:Int) (w:World) (hn:I64 n) (htab:Lib.TabIs Tryz.prog w "internal/strconv.uint64pow10" .u64 Lib.pow10Tab) :
  Calls Tryz.prog 213 #[.int .i64 n] w fun e w'=>e=.returned (.string ⟨(Lib.itoa n).toArray⟩)/\Below w.heap.size w w':=by
 refine (Tryz.strconv_Itoa n hn.1 hn.2 w htab).mono ?_
 rintro e w' ⟨rfl,k,os,rfl⟩
 exact ⟨rfl,Lib.below_grow _ _ Nat.le.refl k os⟩
end
section
open Go.RowKit Go.Shelf
set_option maxHeartbeats 2000000
theorem NE.below {E:Nat->Addr} {w w':World} (h:NE E w) (hb:Below w.heap.size w w'):NE E w':=by
  obtain ⟨c1,c2,c3,c7,c9,c10,⟨a,sy⟩,⟨a',rg⟩,tab,blk,ne⟩:=h
  have C:=fun {x:Addr} {v:Value} (hx:w.cell? x=some v)=>(hb.cell (cell_lt hx)).trans hx
  refine ⟨C c1,C c2,C c3,C c7,C c9,C c10,⟨a,C sy⟩,⟨a',C rg⟩,?_,fun k h1 h2=>?_,ne⟩
  · exact tab_below tab hb Nat.le.refl
  · obtain ⟨c,t,hc⟩:=blk k h1 h2
    exact ⟨c,t,(hb.block _ (blk_lt hc)).trans hc⟩
theorem readLevel_any {E:Nat->Addr} {w:World} (h:NE E w) (s:Bs) (hs:s.length<=1000000) :
    Calls Tryz.prog 166 #[bV s] w fun e w'=>e=.returned (.int .i64 (lvM s))/\Below w.heap.size w w':=by
  have hsz:(⟨s.toArray⟩:ByteArray).size<=1000000:=hs
  have hls:(⟨s.toArray⟩:ByteArray).data.toList=s:=rfl
  unfold lvM
  cases ha:Lib.atoiAll s with
  | «syntax»=>
    obtain ⟨a,sy⟩:=h.sy
    have AT:=Tryz.strconv_Atoi_syntax ⟨s.toArray⟩ (by omega) (by rw [hls];exact ha) (eV a) w sy (.inr ⟨_,_,rfl⟩)
    clear h sy ha
    go_enter Tryz.func166,Tryz.ntmps166
    go_wp2_with (go_at_call 212;refine AT.mono ?_;rintro e w1 ⟨nb,rfl, -, -,b1⟩)
    go_ret
    exact ⟨rfl,b1⟩
  | range=>
    obtain ⟨a,rg⟩:=h.rg
    have AT:=Tryz.strconv_Atoi_range ⟨s.toArray⟩ (by omega) (by rw [hls];exact ha) (eV a) w rg (.inr ⟨_,_,rfl⟩)
    clear h rg ha
    go_enter Tryz.func166,Tryz.ntmps166
    go_wp2_with (go_at_call 212;refine AT.mono ?_;rintro e w1 ⟨nb,rfl, -, -,b1⟩)
    go_ret
    exact ⟨rfl,b1⟩
  | ok v=>
    have AT:Calls Tryz.prog 212 #[.string ⟨s.toArray⟩] w fun e w'=>e=.returned (.tuple #[.int .i64 v,.nilIface])/\Below w.heap.size w w':=by
      refine (Tryz.strconv_Atoi_ok ⟨s.toArray⟩ (by omega) v (by rw [hls];exact ha) w).mono ?_
      rintro e w1 ⟨rfl,rfl | ⟨t,rfl⟩⟩
      · exact ⟨rfl,Below.refl _ _⟩
      · exact ⟨rfl,rfl,rfl,rfl,by rw [Lib.bytesWorld_size];omega,fun j hj=>Lib.bytesWorld_at_old w _ _ j hj⟩
    clear ha
    dsimp only
    by_cases h0:v<0
    · rw [if_neg (by omega)]
      go_enter Tryz.func166,Tryz.ntmps166
      go_wp2_with (go_at_call 212;refine AT.mono ?_;rintro e w1 ⟨rfl,b1⟩)
      go_ret
      exact ⟨rfl,b1⟩
    · by_cases h9:999<v
      · rw [if_neg (by omega)]
        go_enter Tryz.func166,Tryz.ntmps166
        go_wp2_with (go_at_call 212;refine AT.mono ?_;rintro e w1 ⟨rfl,b1⟩)
        go_ret
        exact ⟨rfl,b1⟩
      · have IT:=fun V (hV:NE E V)=>Itoa_any v V ⟨by omega,by omega⟩ hV.tab
        have HN:Hid (NE E w):=h
        clear h
        by_cases hi:Lib.itoa v=s
        · rw [if_pos ⟨by omega,by omega,hi⟩]
          rw [hi] at IT
          go_enter Tryz.func166,Tryz.ntmps166
          go_wp2_with (first | (go_at_call 212;refine AT.mono ?_;rintro e w1 ⟨rfl,b1⟩;have I1:=IT w1 (HN.out.below b1)) | (go_at_call 213;refine I1.mono ?_;rintro e w2 ⟨rfl,b2⟩))
          go_ret
          exact ⟨rfl,mbel b1 b2⟩
        · rw [if_neg (fun h=>hi h.2.2)]
          obtain ⟨t,ht⟩:∃ t,Lib.itoa v=t:=⟨_,rfl⟩
          rw [ht] at IT
          have hq:=ba_toL t s
          have hq1:(t==s)=false:=by rw [<- ht];simpa using hi
          rw [hq1] at hq
          clear hi ht
          go_enter Tryz.func166,Tryz.ntmps166
          go_wp2_with (first | (go_at_call 212;refine AT.mono ?_;rintro e w1 ⟨rfl,b1⟩;have I1:=IT w1 (HN.out.below b1)) | (go_at_call 213;refine I1.mono ?_;rintro e w2 ⟨rfl,b2⟩))
          go_ret
          exact ⟨rfl,mbel b1 b2⟩
end
section
open Go.RowKit Go.Shelf
set_option maxHeartbeats 8000000
set_option maxRecDepth 20000
theorem NE.e3 {E:Nat->Addr} {w:World} (h:NE E w):E3 (E 2) (E 3) (E 2) w:=⟨h.c2,h.c3,rfl⟩
theorem NE.e4 {E:Nat->Addr} {w:World} (h:NE E w):E4 (E 1) (E 2) (E 3) w:=⟨h.e3,h.c1⟩
theorem attD_atM (M:Dm) (n:Int) (nm:Bs):attD M n nm=atM M n nm:=rfl
def SzD (M:Dm):Prop:=∀ n e,M n=some e->∀ a ∈ e.ats,a.2.length<=200
theorem atM_len {M:Dm} (h:SzD M) {n:Int} {nm s:Bs} (ha:atM M n nm=some s):s.length<=200:=by
  unfold atM at ha
  cases hm:M n with
  | none=>rw [hm] at ha;cases ha
  | some e=>
    rw [hm] at ha
    simp only [atOf,Option.map_eq_some_iff] at ha
    obtain ⟨a,h1,h2⟩:=ha
    have:=h n e hm a (List.mem_of_find?_eq_some h1)
    rw [h2] at this
    exact this
theorem valM_len {M:Dm} (h:SzD M) (n:Int) (nm:Bs):(valM M n nm).length<=200:=by
  unfold valM
  cases ha:atM M n nm with
  | none=>simp
  | some s=>exact atM_len h ha
section
variable {E:Nat->Addr} {B:Nat} {tg:Tags} {W:World} {DB MB:Nat} {p:Int->Option Nat} {M:Dm} {nx c:Nat}
theorem fracOf_any (hN:NE E W) (hd:DocW B tg W DB MB p M nx c) (hz:SzD M) (WB:Nat) (hw:W.cell? ⟨WB,0,none⟩=some (.pointer (some ⟨DB,0,none⟩))) (n:Int) (hn:Wf64 n) (nm:Bs) :
    Calls Tryz.prog 167 #[.pointer (some ⟨WB,0,none⟩),.int .i64 n,bV nm] W fun e w'=>e=.returned (.tuple #[.agg #[.int .i64 (fracM M n nm).n,.int .i64 (fracM M n nm).d],er4 (E 1) (E 2) (E 3) (E 2) (fracM M n nm).c])/\Below W.heap.size W w':=by
  have b0:=mal W (.cells #[.int .i64 0,.int .i64 0] 52)
  have T0:=Two.new W (.int .i64 0) (.int .i64 0) 52
  have AT:=Attr_doc (hd.below b0) n hn nm
  have hw0:=(b0.cell (cell_lt hw)).trans hw
  rw [attD_atM] at AT
  unfold fracM
  cases ha:atM M n nm with
  | none=>
    rw [ha] at AT
    clear hd ha
    go_enter Tryz.func167,Tryz.ntmps167
    go_wp2_with (go_at_call 28;refine AT.mono ?_;rintro e w1 ⟨rfl,b1⟩;obtain ⟨t0,t1,f0,f1⟩:=T0.below b1 Nat.le.refl)
    refine bodyPost_ret (v:=.tuple #[.agg #[.int .i64 0,.int .i64 1],.nilIface]) (by simp [results,Tryz.results167,go_sem,t0,t1]) rfl ⟨rfl,?_⟩
    exact ((mbel b0 b1).setCell Nat.le.refl _).setCell Nat.le.refl _
  | some s=>
    rw [ha] at AT
    have hs:=atM_len hz ha
    have hsz:(⟨s.toArray⟩:ByteArray).size<=200:=hs
    have RD:∀ V,NE E V->Calls Tryz.prog 214 #[bV s] V fun e w'=>e=.returned (.tuple #[.agg #[.int .i64 (rd s).n,.int .i64 (rd s).d],er4 (E 1) (E 2) (E 3) (E 2) (rd s).c])/\Below V.heap.size V w':=fun V hV=>ReadF_any (E 1) (E 2) (E 3) (E 2) ⟨s.toArray⟩ V hV.e3 hV.c1 (by omega)
    have HN:Hid (NE E W):=hN
    dsimp only
    generalize rd s=x at RD ⊢
    obtain ⟨ev,hev⟩:∃ v,er4 (E 1) (E 2) (E 3) (E 2) x.c=v:=⟨_,rfl⟩
    simp only [hev] at RD ⊢
    clear hd ha hN hev
    go_enter Tryz.func167,Tryz.ntmps167
    go_wp2_with (first | (go_at_call 28;refine AT.mono ?_;rintro e w1 ⟨rfl,b1⟩;have R1:=RD w1 (HN.out.below (mbel b0 b1))) | (go_at_call 214;refine R1.mono ?_;rintro e w2 ⟨rfl,b2⟩;obtain ⟨t0,t1,f0,f1⟩:=T0.below (mbel b1 b2) Nat.le.refl))
    refine bodyPost_ret (v:=.tuple #[.agg #[.int .i64 x.n,.int .i64 x.d],ev]) (by simp [results,Tryz.results167,go_sem,t0,t1]) rfl ⟨rfl,?_⟩
    exact ((mbel b0 (mbel b1 b2)).setCell Nat.le.refl _).setCell Nat.le.refl _
theorem Blk.all24 {w:World} {R:Nat} {v0 v1 v2 v3 v4 v5 v6 v7 v8 v9 v10 v11:Value} {t:TypeId} (h:Blk w R #[v0,v1,v2,v3,v4,v5,v6,v7,v8,v9,v10,v11] t) :
    w.cell? ⟨R,0,none⟩=some v0/\w.cell? ⟨R,1,none⟩=some v1/\w.cell? ⟨R,2,none⟩=some v2/\w.cell? ⟨R,3,none⟩=some v3/\w.cell? ⟨R,4,none⟩=some v4/\w.cell? ⟨R,5,none⟩=some v5/\w.cell? ⟨R,6,none⟩=some v6/\w.cell? ⟨R,7,none⟩=some v7/\w.cell? ⟨R,8,none⟩=some v8/\w.cell? ⟨R,9,none⟩=some v9/\w.cell? ⟨R,10,none⟩=some v10/\w.cell? ⟨R,11,none⟩=some v11/\
    w.frozen? ⟨R,0,none⟩=false/\w.frozen? ⟨R,1,none⟩=false/\w.frozen? ⟨R,2,none⟩=false/\w.frozen? ⟨R,3,none⟩=false/\w.frozen? ⟨R,4,none⟩=false/\w.frozen? ⟨R,5,none⟩=false/\w.frozen? ⟨R,6,none⟩=false/\w.frozen? ⟨R,7,none⟩=false/\w.frozen? ⟨R,8,none⟩=false/\w.frozen? ⟨R,9,none⟩=false/\w.frozen? ⟨R,10,none⟩=false/\w.frozen? ⟨R,11,none⟩=false:=
  ⟨h.cell 0 _ rfl,h.cell 1 _ rfl,h.cell 2 _ rfl,h.cell 3 _ rfl,h.cell 4 _ rfl,h.cell 5 _ rfl,h.cell 6 _ rfl,h.cell 7 _ rfl,h.cell 8 _ rfl,h.cell 9 _ rfl,h.cell 10 _ rfl,h.cell 11 _ rfl,h.froz 0 _ rfl,h.froz 1 _ rfl,h.froz 2 _ rfl,h.froz 3 _ rfl,h.froz 4 _ rfl,h.froz 5 _ rfl,h.froz 6 _ rfl,h.froz 7 _ rfl,h.froz 8 _ rfl,h.froz 9 _ rfl,h.froz 10 _ rfl,h.froz 11 _ rfl⟩
abbrev plA (n:Int) (q:Value) (m:Mv):Array Value:=#[.int .i64 n,q,.int .i64 m.a.n,.int .i64 m.a.d,.int .i64 m.b.n,.int .i64 m.b.d,.int .i64 m.c.n,.int .i64 m.c.d,.int .i64 m.d.n,.int .i64 m.d.d,.int .i64 m.e.n,.int .i64 m.e.d,.int .i64 m.f.n,.int .i64 m.f.d]
def MvR (E:Nat->Addr) (x:Except Nat Mv) (e:Ending) (w':World):Prop:=match x with
  | .ok m=>e=.returned (.tuple #[mv m,.nilIface])
  | .error c=>∃ v,e=.returned (.tuple #[mv .zero,v])/\ErC E c v w'
theorem kdR_cases (kd:Kd) (ws:List ByteArray):(kdR kd ws).2=0\/(kdR kd ws).2=1\/(kdR kd ws).2=2\/(kdR kd ws).2=3:=by
  have hr:∀ a:ByteArray,rdC a=0\/rdC a=1\/rdC a=2\/rdC a=3:=fun a=>by
    unfold rdC
    rcases rd_cases a.data.toList with h | ⟨h, -⟩
    · exact .inl h
    · exact .inr h
  have h2:∀ (mk:Fr->Fr->Mv) (a b:ByteArray),(rd2 mk a b).2=0\/(rd2 mk a b).2=1\/(rd2 mk a b).2=2\/(rd2 mk a b).2=3:=fun mk a b=>by
    unfold rd2
    split
    · exact hr a
    · split
      · exact hr b
      · exact .inl rfl
  unfold kdR
  split
  · exact h2 _ _ _
  · exact h2 _ _ _
  · unfold turnR
    split
    · exact .inl rfl
    · split
      · exact .inl rfl
      · split
        · exact .inl rfl
        · split
          · exact .inl rfl
          · exact .inr (.inl rfl)
  · unfold rd1
    split
    · exact hr _
    · exact .inl rfl
  · exact .inr (.inl rfl)
theorem readL_cases:∀ (f:Nat) (ws:List ByteArray) (acc:List Mv),(readL f ws acc).2=0\/(readL f ws acc).2=1\/(readL f ws acc).2=2\/(readL f ws acc).2=3
  | _,[],_=>.inl (by simp [readL])
  | 0,_ :: _,_=>.inr (.inl rfl)
  | f+1,k :: ws,acc=>by
    unfold readL
    cases hk:kdOf k with
    | none=>exact .inr (.inl rfl)
    | some kd=>
      dsimp only
      split
      · exact .inr (.inl rfl)
      · split
        · exact readL_cases f _ _
        · exact kdR_cases kd ws
theorem readR_cases (s:ByteArray):(readR s).2=0\/(readR s).2=1\/(readR s).2=2\/(readR s).2=3:=by
  unfold readR
  split
  · rcases foldR_two (listR s).1.reverse .one with h | h
    · exact .inl h
    · rw [h];exact .inr (.inr (.inl rfl))
  · unfold listR
    split
    · exact .inl rfl
    · exact readL_cases _ _ _
theorem readR_ok {s:ByteArray} (h:(readR s).2=0):(readR s).1.ok:=by
  unfold readR at h ⊢
  by_cases hl:(listR s).2=0
  · rw [if_pos hl] at h ⊢
    refine foldR_ok _ _ one_ok (fun n hn=>?_) h
    unfold listR at hl hn
    by_cases h0:s.size=0
    · rw [if_pos h0] at hn;simp at hn
    · rw [if_neg h0] at hl hn
      exact readL_ok _ _ _ (by simp) hl n (List.mem_reverse.1 hn)
  · rw [if_neg hl] at h;exact absurd h hl
theorem er0_eV {E:Nat->Addr} {c:Nat} (h:c=1\/c=2\/c=3):er0 (E 1) (E 2) (E 3) c=eV (E c):=by
  rcases h with rfl | rfl | rfl <;> rfl
theorem moveOf_any (hN:NE E W) (hd:DocW B tg W DB MB p M nx c) (hz:SzD M) (WB:Nat) (hw:W.cell? ⟨WB,0,none⟩=some (.pointer (some ⟨DB,0,none⟩))) (n:Int) (hn:Wf64 n) (PB:Nat) (k:Int) (q:Value) (m:Mv) (hm:m.ok) (hp:W.heap[PB]? = some (.cells (plA k q m) 116)) :
    Calls Tryz.prog 84 #[.pointer (some ⟨WB,0,none⟩),.int .i64 n,.pointer (some ⟨PB,0,none⟩)] W fun e w'=>MvR E (moveM M n m) e w'/\Below W.heap.size W w':=by
  have b0:=mal W (.cells #[.int .i64 0,.int .i64 0,.int .i64 0,.int .i64 0,.int .i64 0,.int .i64 0,.int .i64 0,.int .i64 0,.int .i64 0,.int .i64 0,.int .i64 0,.int .i64 0] 113)
  have K0:=Blk.new W #[.int .i64 0,.int .i64 0,.int .i64 0,.int .i64 0,.int .i64 0,.int .i64 0,.int .i64 0,.int .i64 0,.int .i64 0,.int .i64 0,.int .i64 0,.int .i64 0] 113
  have AT:=Attr_doc (hd.below b0) n hn kMove
  have hw0:=(b0.cell (cell_lt hw)).trans hw
  rw [attD_atM] at AT
  have hl:=valM_len hz n kMove
  unfold moveM
  unfold valM at hl ⊢
  generalize (atM M n kMove).getD []=s at AT hl ⊢
  generalize (atM M n kMove).isSome=bo at AT
  have hsz:(⟨s.toArray⟩:ByteArray).size<=200:=hl
  have RD:=fun V (hV:NE E V)=>Read_gen (aT:=E 1) (aB:=E 2) (aS:=E 3) ⟨s.toArray⟩ (by omega) V hV.e4
  have HN:Hid (NE E W):=hN
  have hrc:=readR_cases ⟨s.toArray⟩
  have hro:(readR ⟨s.toArray⟩).2=0->(readR ⟨s.toArray⟩).1.ok:=readR_ok
  obtain ⟨rm,rc,hr⟩:∃ a b,readR ⟨s.toArray⟩=(a,b):=⟨_,_,rfl⟩
  simp only [hr] at RD hrc hro ⊢
  clear hr hN hd hl
  by_cases hc:rc=0
  · subst hc
    have hro:=hro rfl
    have hpl:=blk_lt hp
    rw [if_neg (by simp)]
    simp only [show er0 (E 1) (E 2) (E 3) 0=.nilIface from rfl] at RD
    by_cases ht:(thenS rm m).2=0
    · rw [if_pos ht]
      have TH:=fun V (hV:NE E V)=>Then_ok (aB:=E 2) (aS:=E 3) (aZ:=E 2) (ok_all hro) (ok_all hm) (thenR_ok hro hm (pair_eq ht)) V hV.e3
      generalize (thenS rm m).1=x at TH ⊢
      clear ht hrc
      go_enter Tryz.func84,Tryz.ntmps84
      go_upto_region 5 with (first | (go_at_call 28;refine AT.mono ?_;rintro e w1 ⟨rfl,b1⟩;have R1:=RD w1 (HN.out.below (mbel b0 b1))) | (go_at_call 121;refine R1.mono ?_;rintro e w2 ⟨rfl,b2⟩))
      have b3:=mal w2 (.cells #[.int .i64 rm.a.n,.int .i64 rm.a.d,.int .i64 rm.b.n,.int .i64 rm.b.d,.int .i64 rm.c.n,.int .i64 rm.c.d,.int .i64 rm.d.n,.int .i64 rm.d.d,.int .i64 rm.e.n,.int .i64 rm.e.d,.int .i64 rm.f.n,.int .i64 rm.f.d] 113)
      have KM:=Blk.new w2 #[.int .i64 rm.a.n,.int .i64 rm.a.d,.int .i64 rm.b.n,.int .i64 rm.b.d,.int .i64 rm.c.n,.int .i64 rm.c.d,.int .i64 rm.d.n,.int .i64 rm.d.d,.int .i64 rm.e.n,.int .i64 rm.e.d,.int .i64 rm.f.n,.int .i64 rm.f.d] 113
      have bU:=mbel (mbel b0 b1) (mbel b2 b3)
      have K0U:=K0.below (mbel b1 (mbel b2 b3)) Nat.le.refl
      have hpU:=(bU.block _ hpl).trans hp
      have hlt:W.heap.size<w2.heap.size:=by have:=b1.size;have:=b2.size;simp at *;omega
      obtain ⟨U,hU⟩:∃ U,w2.alloc (.cells #[.int .i64 rm.a.n,.int .i64 rm.a.d,.int .i64 rm.b.n,.int .i64 rm.b.d,.int .i64 rm.c.n,.int .i64 rm.c.d,.int .i64 rm.d.n,.int .i64 rm.d.d,.int .i64 rm.e.n,.int .i64 rm.e.d,.int .i64 rm.f.n,.int .i64 rm.f.d] 113)=U:=⟨_,rfl⟩
      rw [hU] at bU K0U hpU KM ⊢
      obtain ⟨RB,hRB⟩:∃ r,w2.heap.size=r:=⟨_,rfl⟩
      rw [hRB] at KM hlt ⊢
      have NU:=HN.out.below bU
      have TU:=fun V (hV:Below U.heap.size U V)=>TH V (NU.below hV)
      clear hU b0 b1 b2 b3 AT RD R1 TH hw0 K0 hp
      have T1:=TU U.drew (below_drewN (Below.refl _ _) 1)
      obtain ⟨m0,m1,m2,m3,m4,m5,m6,m7,m8,m9,m10,m11, -⟩:=KM.all24
      have p2:=bcell hpU 2 _ rfl
      have p3:=bcell hpU 3 _ rfl
      have p4:=bcell hpU 4 _ rfl
      have p5:=bcell hpU 5 _ rfl
      have p6:=bcell hpU 6 _ rfl
      have p7:=bcell hpU 7 _ rfl
      have p8:=bcell hpU 8 _ rfl
      have p9:=bcell hpU 9 _ rfl
      have p10:=bcell hpU 10 _ rfl
      have p11:=bcell hpU 11 _ rfl
      have p12:=bcell hpU 12 _ rfl
      have p13:=bcell hpU 13 _ rfl
      have RF:∀ V,Below U.heap.size U.drew V->Blk V W.heap.size #[.int .i64 0,.int .i64 0,.int .i64 0,.int .i64 0,.int .i64 0,.int .i64 0,.int .i64 0,.int .i64 0,.int .i64 0,.int .i64 0,.int .i64 0,.int .i64 0] 113:=fun V hV=>⟨(hV.block _ K0U.lt).trans K0U.h⟩
      clear hpU KM
      go_region_with (go_at_call 122;refine T1.mono ?_;rintro e w3 ⟨rfl,b4⟩;obtain ⟨z0,z1,z2,z3,z4,z5,z6,z7,z8,z9,z10,z11,y0,y1,y2,y3,y4,y5,y6,y7,y8,y9,y10,y11⟩:=(RF w3 b4).all24)
      all_goals go_wp2_with fail
      all_goals refine bodyPost_ret (v:=.tuple #[mv x,.nilIface]) (by simp [results,Tryz.results84,go_sem,z0,z1,z2,z3,z4,z5,z6,z7,z8,z9,z10,z11]) rfl ⟨rfl,?_⟩
      all_goals exact put_below (R:=W.heap.size) Nat.le.refl [.int .i64 x.a.n,.int .i64 x.a.d,.int .i64 x.b.n,.int .i64 x.b.d,.int .i64 x.c.n,.int .i64 x.c.d,.int .i64 x.d.n,.int .i64 x.d.d,.int .i64 x.e.n,.int .i64 x.e.d,.int .i64 x.f.n,.int .i64 x.f.d] 0 (bU.trans ((below_drewN (Below.refl _ _) 1).trans (b4.mono Nat.le.refl) |>.mono bU.size))
    · rw [if_neg ht]
      have TH:∀ V,NE E V->Calls Tryz.prog 122 #[mv rm,mv m] V fun e w'=>(∃ v,e=.returned (.tuple #[mv .zero,v])/\Er.is (E 2) (E 3) (E 2) V.heap.size (.bare 2) v w')/\Below V.heap.size V w':=fun V hV=>by
        have h:=Then_no (aB:=E 2) (aS:=E 3) (aZ:=E 2) (ok_all hro) (ok_all hm) (fun y e=>ht (by rw [(thenR_no e).2.2])) V hV.e3
        have h2:(thenR rm m).2=.bare 2:=by
          unfold thenR
          rw [if_neg (fun e=>e (bad_ok hro)),if_neg (fun e=>e (bad_ok hm)),if_neg ht]
        rw [h2] at h
        exact h
      clear ht hrc
      go_enter Tryz.func84,Tryz.ntmps84
      go_upto_region 5 with (first | (go_at_call 28;refine AT.mono ?_;rintro e w1 ⟨rfl,b1⟩;have R1:=RD w1 (HN.out.below (mbel b0 b1))) | (go_at_call 121;refine R1.mono ?_;rintro e w2 ⟨rfl,b2⟩))
      have b3:=mal w2 (.cells #[.int .i64 rm.a.n,.int .i64 rm.a.d,.int .i64 rm.b.n,.int .i64 rm.b.d,.int .i64 rm.c.n,.int .i64 rm.c.d,.int .i64 rm.d.n,.int .i64 rm.d.d,.int .i64 rm.e.n,.int .i64 rm.e.d,.int .i64 rm.f.n,.int .i64 rm.f.d] 113)
      have KM:=Blk.new w2 #[.int .i64 rm.a.n,.int .i64 rm.a.d,.int .i64 rm.b.n,.int .i64 rm.b.d,.int .i64 rm.c.n,.int .i64 rm.c.d,.int .i64 rm.d.n,.int .i64 rm.d.d,.int .i64 rm.e.n,.int .i64 rm.e.d,.int .i64 rm.f.n,.int .i64 rm.f.d] 113
      have bU:=mbel (mbel b0 b1) (mbel b2 b3)
      have K0U:=K0.below (mbel b1 (mbel b2 b3)) Nat.le.refl
      have hpU:=(bU.block _ hpl).trans hp
      have hlt:W.heap.size<w2.heap.size:=by have:=b1.size;have:=b2.size;simp at *;omega
      obtain ⟨U,hU⟩:∃ U,w2.alloc (.cells #[.int .i64 rm.a.n,.int .i64 rm.a.d,.int .i64 rm.b.n,.int .i64 rm.b.d,.int .i64 rm.c.n,.int .i64 rm.c.d,.int .i64 rm.d.n,.int .i64 rm.d.d,.int .i64 rm.e.n,.int .i64 rm.e.d,.int .i64 rm.f.n,.int .i64 rm.f.d] 113)=U:=⟨_,rfl⟩
      rw [hU] at bU K0U hpU KM ⊢
      obtain ⟨RB,hRB⟩:∃ r,w2.heap.size=r:=⟨_,rfl⟩
      rw [hRB] at KM hlt ⊢
      have NU:=HN.out.below bU
      have TU:=fun V (hV:Below U.heap.size U V)=>TH V (NU.below hV)
      clear hU b0 b1 b2 b3 AT RD R1 TH hw0 K0 hp
      have T1:=TU U.drew (below_drewN (Below.refl _ _) 1)
      obtain ⟨m0,m1,m2,m3,m4,m5,m6,m7,m8,m9,m10,m11, -⟩:=KM.all24
      have p2:=bcell hpU 2 _ rfl
      have p3:=bcell hpU 3 _ rfl
      have p4:=bcell hpU 4 _ rfl
      have p5:=bcell hpU 5 _ rfl
      have p6:=bcell hpU 6 _ rfl
      have p7:=bcell hpU 7 _ rfl
      have p8:=bcell hpU 8 _ rfl
      have p9:=bcell hpU 9 _ rfl
      have p10:=bcell hpU 10 _ rfl
      have p11:=bcell hpU 11 _ rfl
      have p12:=bcell hpU 12 _ rfl
      have p13:=bcell hpU 13 _ rfl
      have RF:∀ V,Below U.heap.size U.drew V->Blk V W.heap.size #[.int .i64 0,.int .i64 0,.int .i64 0,.int .i64 0,.int .i64 0,.int .i64 0,.int .i64 0,.int .i64 0,.int .i64 0,.int .i64 0,.int .i64 0,.int .i64 0] 113:=fun V hV=>⟨(hV.block _ K0U.lt).trans K0U.h⟩
      clear hpU KM
      go_region_with (go_at_call 122;refine T1.mono ?_;rintro e w3 ⟨⟨ev,rfl,hev⟩,b4⟩;obtain ⟨z0,z1,z2,z3,z4,z5,z6,z7,z8,z9,z10,z11,y0,y1,y2,y3,y4,y5,y6,y7,y8,y9,y10,y11⟩:=(RF w3 b4).all24)
      all_goals go_wp2_with fail
      all_goals refine bodyPost_ret (v:=.tuple #[mv .zero,ev]) (by simp [results,Tryz.results84,go_sem,Mv.zero,Fr.zero,z0,z1,z2,z3,z4,z5,z6,z7,z8,z9,z10,z11]) rfl ⟨⟨ev,rfl,by decide,by decide,.inl hev.2⟩,?_⟩
      all_goals exact put_below (R:=W.heap.size) Nat.le.refl [.int .i64 0,.int .i64 0,.int .i64 0,.int .i64 0,.int .i64 0,.int .i64 0,.int .i64 0,.int .i64 0,.int .i64 0,.int .i64 0,.int .i64 0,.int .i64 0] 0 (bU.trans ((below_drewN (Below.refl _ _) 1).trans (b4.mono Nat.le.refl) |>.mono bU.size))
  · have hrc:rc=1\/rc=2\/rc=3:=hrc.resolve_left hc
    rw [if_pos hc]
    simp only [er0_eV hrc] at RD
    have HRC:Hid (rc=1\/rc=2\/rc=3):=hrc
    clear hrc hro
    go_enter Tryz.func84,Tryz.ntmps84
    go_wp2_with (first | (go_at_call 28;refine AT.mono ?_;rintro e w1 ⟨rfl,b1⟩;have R1:=RD w1 (HN.out.below (mbel b0 b1))) | (go_at_call 121;refine R1.mono ?_;rintro e w2 ⟨rfl,b2⟩;obtain ⟨z0,z1,z2,z3,z4,z5,z6,z7,z8,z9,z10,z11,y0,y1,y2,y3,y4,y5,y6,y7,y8,y9,y10,y11⟩:=((K0.below (mbel b1 b2) Nat.le.refl).alloc (.cells #[.int .i64 rm.a.n,.int .i64 rm.a.d,.int .i64 rm.b.n,.int .i64 rm.b.d,.int .i64 rm.c.n,.int .i64 rm.c.d,.int .i64 rm.d.n,.int .i64 rm.d.d,.int .i64 rm.e.n,.int .i64 rm.e.d,.int .i64 rm.f.n,.int .i64 rm.f.d] 113)).all24))
    refine bodyPost_ret (v:=.tuple #[mv .zero,eV (E rc)]) (by simp [results,Tryz.results84,go_sem,Mv.zero,Fr.zero,z0,z1,z2,z3,z4,z5,z6,z7,z8,z9,z10,z11]) rfl ⟨⟨_,rfl,by have:=HRC.out;omega,by have:=HRC.out;omega,.inl rfl⟩,?_⟩
    exact put_below (R:=W.heap.size) Nat.le.refl [.int .i64 0,.int .i64 0,.int .i64 0,.int .i64 0,.int .i64 0,.int .i64 0,.int .i64 0,.int .i64 0,.int .i64 0,.int .i64 0,.int .i64 0,.int .i64 0] 0 ((mbel b0 (mbel b1 b2)).alloc (mbel b0 (mbel b1 b2)).size _)
end
end
section
open Go.RowKit Go.Shelf
set_option maxHeartbeats 4000000
set_option maxRecDepth 20000
theorem cut44_none (s:ByteArray) (w:World) (h:behind 44 s.data.toList=none) :
    Calls Tryz.prog 135 #[.string s,.string ⟨#[44]⟩] w fun e w'=>e=.returned (.tuple #[.string s,.string ⟨#[]⟩,.bool false])/\∃ k,w'=w.drewN k:=by
  obtain ⟨hi,_⟩:=index_none 44 _ h
  have HI:=Tryz.stringslite_Index_one s 44
  rw [hi] at HI
  have HH:Hid (∀ w,Calls Tryz.prog 188 #[.string s,.string ⟨#[44]⟩] w fun e w'=>e=.returned (.int .i64 (-1))/\w'=w):=HI
  clear HI hi h
  go_enter Tryz.func135,Tryz.ntmps135
  go_wp2_with (go_at_call 188;refine (HH.out _).mono ?_;rintro e w' ⟨rfl,rfl⟩)
  go_ret3
  exact ⟨rfl,0,rfl⟩
theorem cut44_some (s a b:ByteArray) (w:World) (hb:behind 44 s.data.toList=some b.data.toList) (ha:ahead 44 s.data.toList=a.data.toList) (hm:s.size<=9223372036854475807) :
    Calls Tryz.prog 135 #[.string s,.string ⟨#[44]⟩] w fun e w'=>e=.returned (.tuple #[.string a,.string b,.bool true])/\∃ k,w'=w.drewN k:=by
  obtain ⟨i,hi,hl,h3,h4⟩:=index_some 44 _ _ hb
  rw [len_eq] at hl
  have HI:=Tryz.stringslite_Index_one s 44
  rw [hi] at HI
  have HH:Hid (∀ w,Calls Tryz.prog 188 #[.string s,.string ⟨#[44]⟩] w fun e w'=>e=.returned (.int .i64 i)/\w'=w):=HI
  have e1:s.extract 0 i=a:=ext_list (by rw [Lib.extract_data];simpa [ha] using h3)
  have e2:s.extract (i+1) s.size=b:=ext_list (by rw [Lib.extract_to_end];exact h4)
  clear HI hi h3 h4 ha hb
  have hl1:(i:Int)<(s.size:Int):=by omega
  have hl2:(i:Int)+1<=(s.size:Int):=by omega
  have h0:(0:Int)<=(i:Int):=by omega
  go_enter Tryz.func135,Tryz.ntmps135
  go_wp2_with (go_at_call 188;refine (HH.out _).mono ?_;rintro e w' ⟨rfl,rfl⟩)
  go_quiet (fail)
  go_wp2
  go_ret3
  exact ⟨rfl,_,rfl⟩
theorem CutC_none (s:ByteArray) (w:World) (h:behind 44 s.data.toList=none) :
    Calls Tryz.prog 97 #[.string s,.string ⟨#[44]⟩] w fun e w'=>e=.returned (.tuple #[.string s,.string ⟨#[]⟩,.bool false])/\∃ k,w'=w.drewN k:=by
  have HB:Hid (behind 44 s.data.toList=none):=h
  clear h
  go_enter Tryz.func97,Tryz.ntmps97
  go_wp2_with (go_at_call 135;refine (cut44_none s _ HB.out).mono ?_;rintro e w' ⟨rfl,k,rfl⟩)
  go_ret3
  exact ⟨rfl,_,rfl⟩
theorem CutC_some (s a b:ByteArray) (w:World) (hb:behind 44 s.data.toList=some b.data.toList) (ha:ahead 44 s.data.toList=a.data.toList) (hm:s.size<=9223372036854475807) :
    Calls Tryz.prog 97 #[.string s,.string ⟨#[44]⟩] w fun e w'=>e=.returned (.tuple #[.string a,.string b,.bool true])/\∃ k,w'=w.drewN k:=by
  have HB:Hid (behind 44 s.data.toList=some b.data.toList):=hb
  have HA:Hid (ahead 44 s.data.toList=a.data.toList):=ha
  clear ha hb
  go_enter Tryz.func97,Tryz.ntmps97
  go_wp2_with (go_at_call 135;refine (cut44_some s a b _ HB.out HA.out hm).mono ?_;rintro e w' ⟨rfl,k,rfl⟩)
  go_ret3
  exact ⟨rfl,_,rfl⟩
theorem er4_eV {E:Nat->Addr} {c:Nat} (h:c=1\/c=2\/c=3):er4 (E 1) (E 2) (E 3) (E 2) c=eV (E c):=by
  rcases h with rfl | rfl | rfl <;> rfl
theorem er4_nil {E:Nat->Addr}:er4 (E 1) (E 2) (E 3) (E 2) 0=.nilIface:=rfl
abbrev zQt:Qt:=⟨0,0,0,0⟩
def RpR (x:Option Qt) (e:Ending):Prop:=match x with
  | some q=>e=.returned (.tuple #[qtV q,.bool true])
  | none=>e=.returned (.tuple #[qtV zQt,.bool false])
section
variable {E:Nat->Addr} {W:World}
theorem RdF_any (hN:NE E W) (s:ByteArray) (hs:s.size<=1000000):Calls Tryz.prog 214 #[.string s] W fun e w'=>e=.returned (.tuple #[.agg #[.int .i64 (rd s.data.toList).n,.int .i64 (rd s.data.toList).d],er4 (E 1) (E 2) (E 3) (E 2) (rd s.data.toList).c])/\Below W.heap.size W w':=
  ReadF_any (E 1) (E 2) (E 3) (E 2) s W hN.e3 hN.c1 (by omega)
theorem readPoint_walk (s l r:ByteArray) (bo:Bool) (xn xd yn yd:Int) (e1 e2:Value) (ans:Option Qt)
    (CT:∀ V,Calls Tryz.prog 97 #[.string s,.string ⟨#[44]⟩] V fun e w'=>e=.returned (.tuple #[.string l,.string r,.bool bo])/\∃ k,w'=V.drewN k)
    (RX:∀ V,NE E V->Calls Tryz.prog 214 #[.string l] V fun e w'=>e=.returned (.tuple #[.agg #[.int .i64 xn,.int .i64 xd],e1])/\Below V.heap.size V w')
    (RY:∀ V,NE E V->Calls Tryz.prog 214 #[.string r] V fun e w'=>e=.returned (.tuple #[.agg #[.int .i64 yn,.int .i64 yd],e2])/\Below V.heap.size V w')
    (hans:(bo=false/\ans=none)\/(bo=true/\(∃ a,e1=eV a)/\ans=none)\/(bo=true/\e1=.nilIface/\(∃ a,e2=eV a)/\ans=none)\/(bo=true/\e1=.nilIface/\e2=.nilIface/\ans=some ⟨xn,xd,yn,yd⟩)) (hN:NE E W) :
    Calls Tryz.prog 218 #[.string s] W fun e w'=>RpR ans e/\Below W.heap.size W w':=by
  have b0:=mal W (.cells #[.int .i64 0,.int .i64 0,.int .i64 0,.int .i64 0] 121)
  have K0:=mbox W #[.int .i64 0,.int .i64 0,.int .i64 0,.int .i64 0] 121
  have HN:Hid (NE E W):=hN
  clear hN
  go_enter Tryz.func218,Tryz.ntmps218
  go_upto_region 2 with (go_at_call 97;refine (CT _).mono ?_;rintro e w1 ⟨rfl,k,hw⟩;rw [hw])
  have bU1:=below_drewN b0 k
  obtain ⟨U1,hU1⟩:∃ U,((W.alloc (.cells #[.int .i64 0,.int .i64 0,.int .i64 0,.int .i64 0] 121)).drewN k)=U:=⟨_,rfl⟩
  have K1:U1.heap[W.heap.size]? = some (.cells #[.int .i64 0,.int .i64 0,.int .i64 0,.int .i64 0] 121):=by rw [<- hU1];exact K0
  rw [hU1] at bU1 ⊢
  clear hU1 K0 b0
  have R1:=RX U1 (HN.out.below bU1)
  go_upto_region 3 with (go_at_call 214;refine R1.mono ?_;rintro e w2 ⟨rfl,b2⟩)
  have b3:=mal w2 (.cells #[.int .i64 xn,.int .i64 xd] 52)
  have KX:=mbox w2 #[.int .i64 xn,.int .i64 xd] 52
  obtain ⟨U2,hU2⟩:∃ U,w2.alloc (.cells #[.int .i64 xn,.int .i64 xd] 52)=U:=⟨_,rfl⟩
  obtain ⟨BX,hBX⟩:∃ b,w2.heap.size=b:=⟨_,rfl⟩
  rw [hU2] at b3 KX ⊢
  rw [hBX] at KX ⊢
  have b23:=mbel b2 b3
  have hlt1:W.heap.size<BX:=by have:=b2.size;have:=blk_lt K1;omega
  have K2:=(b23.block _ (blk_lt K1)).trans K1
  have bU2:=mbel bU1 b23
  clear R1 hU2 b2 b3 b23 K1 hBX
  have R2:=RY U2 (HN.out.below bU2)
  go_upto_region 4 with (go_at_call 214;refine R2.mono ?_;rintro e w4 ⟨rfl,b4⟩)
  have b5:=mal w4 (.cells #[.int .i64 yn,.int .i64 yd] 52)
  have KY:=mbox w4 #[.int .i64 yn,.int .i64 yd] 52
  obtain ⟨U3,hU3⟩:∃ U,w4.alloc (.cells #[.int .i64 yn,.int .i64 yd] 52)=U:=⟨_,rfl⟩
  obtain ⟨BY,hBY⟩:∃ b,w4.heap.size=b:=⟨_,rfl⟩
  rw [hU3] at b5 KY ⊢
  rw [hBY] at KY ⊢
  have b45:=mbel b4 b5
  have hlt2:BX<BY:=by have:=b4.size;have:=blk_lt KX;omega
  have K3:=(b45.block _ (blk_lt K2)).trans K2
  have KX3:=(b45.block _ (blk_lt KX)).trans KX
  have bU3:=mbel bU2 b45
  clear R2 hU3 b4 b5 b45 K2 KX hBY
  have x0:=bcell KX3 0 _ rfl
  have x1:=bcell KX3 1 _ rfl
  have y0:=bcell KY 0 _ rfl
  have y1:=bcell KY 1 _ rfl
  have r0:=bcell K3 0 _ rfl
  have r1:=bcell K3 1 _ rfl
  have r2:=bcell K3 2 _ rfl
  have r3:=bcell K3 3 _ rfl
  have f0:=bfrozQ K3 0
  have f1:=bfrozQ K3 1
  have f2:=bfrozQ K3 2
  have f3:=bfrozQ K3 3
  clear CT RX RY
  rcases hans with ⟨rfl,rfl⟩ | ⟨rfl,⟨a,rfl⟩,rfl⟩ | ⟨rfl,rfl,⟨a,rfl⟩,rfl⟩ | ⟨rfl,rfl,rfl,rfl⟩
  · go_wp2_with fail
    all_goals refine bodyPost_ret (v:=.tuple #[qtV zQt,.bool false]) (by simp [results,Tryz.results218,go_sem,r0,r1,r2,r3]) rfl ⟨rfl,?_⟩
    all_goals exact (((bU3.setCell Nat.le.refl _).setCell Nat.le.refl _).setCell Nat.le.refl _).setCell Nat.le.refl _
  · go_wp2_with fail
    all_goals refine bodyPost_ret (v:=.tuple #[qtV zQt,.bool false]) (by simp [results,Tryz.results218,go_sem,r0,r1,r2,r3]) rfl ⟨rfl,?_⟩
    all_goals exact (((bU3.setCell Nat.le.refl _).setCell Nat.le.refl _).setCell Nat.le.refl _).setCell Nat.le.refl _
  · go_wp2_with fail
    all_goals refine bodyPost_ret (v:=.tuple #[qtV zQt,.bool false]) (by simp [results,Tryz.results218,go_sem,r0,r1,r2,r3]) rfl ⟨rfl,?_⟩
    all_goals exact (((bU3.setCell Nat.le.refl _).setCell Nat.le.refl _).setCell Nat.le.refl _).setCell Nat.le.refl _
  · go_wp2_with fail
    all_goals refine bodyPost_ret (v:=.tuple #[qtV ⟨xn,xd,yn,yd⟩,.bool true]) (by simp [results,Tryz.results218,go_sem,r0,r1,r2,r3]) rfl ⟨rfl,?_⟩
    all_goals exact (((bU3.setCell Nat.le.refl _).setCell Nat.le.refl _).setCell Nat.le.refl _).setCell Nat.le.refl _
theorem rd_err (l:Bs):(rd l).c=0\/(rd l).c=1\/(rd l).c=2\/(rd l).c=3:=by
  rcases rd_cases l with h | ⟨h, -⟩
  · exact .inl h
  · exact .inr h
theorem readPoint_any (hN:NE E W) (s:ByteArray) (hs:s.size<=1000) :
    Calls Tryz.prog 218 #[.string s] W fun e w'=>RpR (ptM s.data.toList) e/\Below W.heap.size W w':=by
  unfold ptM
  cases hb:behind 44 s.data.toList with
  | none=>
    exact readPoint_walk s s ⟨#[]⟩ false _ _ _ _ _ _ none (fun V=>CutC_none s V hb) (fun V hV=>RdF_any hV s (by omega)) (fun V hV=>RdF_any hV ⟨#[]⟩ (by decide)) (.inl ⟨rfl,rfl⟩) hN
  | some b=>
    have hbb:behind 44 s.data.toList=some (⟨b.toArray⟩:ByteArray).data.toList:=hb
    have haa:ahead 44 s.data.toList=(⟨(ahead 44 s.data.toList).toArray⟩:ByteArray).data.toList:=rfl
    obtain ⟨i, -,hl,h3,h4⟩:=index_some 44 _ _ hb
    have hla:(⟨(ahead 44 s.data.toList).toArray⟩:ByteArray).size<=1000000:=by
      show (ahead 44 s.data.toList).length<=1000000
      rw [<- h3,List.length_take]
      have:s.data.toList.length=s.size:=rfl
      omega
    have hlb:(⟨b.toArray⟩:ByteArray).size<=1000000:=by
      show b.length<=1000000
      rw [<- h4,List.length_drop]
      have:s.data.toList.length=s.size:=rfl
      omega
    refine readPoint_walk s ⟨(ahead 44 s.data.toList).toArray⟩ ⟨b.toArray⟩ true _ _ _ _ _ _ _ (fun V=>CutC_some s _ _ V hbb haa (by omega)) (fun V hV=>RdF_any hV _ hla) (fun V hV=>RdF_any hV _ hlb) (.inr ?_) hN
    dsimp only
    rcases rd_err (ahead 44 s.data.toList) with h1 | h1
    · rcases rd_err b with h2 | h2
      · exact .inr (.inr ⟨rfl,by rw [h1,er4_nil],by rw [h2,er4_nil],by rw [if_pos ⟨h1,h2⟩]⟩)
      · exact .inr (.inl ⟨rfl,by rw [h1,er4_nil],⟨_,er4_eV h2⟩,by rw [if_neg (by omega)]⟩)
    · exact .inl ⟨rfl,⟨_,er4_eV h1⟩,by rw [if_neg (by omega)]⟩
end
end
end Go.Proofs.YtgphclgmmocdhaaGreatDoor

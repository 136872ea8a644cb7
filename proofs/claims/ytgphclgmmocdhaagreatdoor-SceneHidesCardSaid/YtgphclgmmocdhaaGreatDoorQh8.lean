/-
  Parts of the proof.
-/
import Derived.Test.YtgphclgmmocdhaaGreatDoorQh7
namespace Go.Proofs.YtgphclgmmocdhaaGreatDoor
section
theorem whole_ok {n:Int} (h:n.natAbs<=1073741824):(Fr.whole n).ok:=chk_zero.2 ⟨by simp [Fr.whole],by simp [gcdI,Fr.whole],by simpa [Fr.whole] using h,by simp [Fr.whole]⟩
theorem one_ok:Mv.one.ok:=⟨whole_ok (by decide),whole_ok (by decide),whole_ok (by decide),whole_ok (by decide),whole_ok (by decide),whole_ok (by decide)⟩
theorem bad_ok {m:Mv} (h:m.ok):(firstBad 0 m.list).1=0:=by
 rw [firstBad_none]
 intro y hy
 simp only [Mv.list,List.mem_cons,List.not_mem_nil,or_false] at hy
 obtain ⟨h1,h2,h3,h4,h5,h6⟩:=h
 rcases hy with rfl | rfl | rfl | rfl | rfl | rfl <;> assumption
theorem badp_ok {p:Pt} (h:p.ok):(firstBad 6 p.list).1=0:=by
 rw [firstBad_none]
 intro y hy
 simp only [Pt.list,List.mem_cons,List.not_mem_nil,or_false] at hy
 rcases hy with rfl | rfl
 ·exact h.1
 ·exact h.2
theorem thenR_ok {m n x:Mv} (hm:m.ok) (hn:n.ok) (h:thenS m n=(x,0)):thenR m n=(x,.no):=by
 unfold thenR;rw [if_neg (by simp [bad_ok hm]),if_neg (by simp [bad_ok hn]),h];simp
theorem atR_ok {m:Mv} {p q:Pt} (hm:m.ok) (hp:p.ok) (h:movedF 0 m p=(q,0)):atR m p=(q,.no):=by
 unfold atR;rw [if_neg (by simp [bad_ok hm]),if_neg (by simp [badp_ok hp]),h];simp
theorem thenR_no {m n x:Mv} (h:thenR m n=(x,.no)):m.ok/\n.ok/\thenS m n=(x,0):=by
 unfold thenR at h
 by_cases h1:(firstBad 0 m.list).1=0
 ·rw [if_neg (by simp [h1])] at h
  by_cases h2:(firstBad 0 n.list).1=0
  ·rw [if_neg (by simp [h2])] at h
   by_cases h3:(thenS m n).2=0
   ·rw [if_pos h3] at h
    exact ⟨mv_ok h1,mv_ok h2,Prod.ext (Prod.mk.inj h).1 h3⟩
   ·rw [if_neg h3] at h;cases h
  ·rw [if_pos h2] at h;cases h
 ·rw [if_pos h1] at h;cases h
theorem atR_no {m:Mv} {p q:Pt} (h:atR m p=(q,.no)):m.ok/\p.ok/\movedF 0 m p=(q,0):=by
 unfold atR at h
 by_cases h1:(firstBad 0 m.list).1=0
 ·rw [if_neg (by simp [h1])] at h
  by_cases h2:(firstBad 6 p.list).1=0
  ·rw [if_neg (by simp [h2])] at h
   by_cases h3:(movedF 0 m p).2=0
   ·rw [if_pos h3] at h
    exact ⟨mv_ok h1,pt_ok h2,Prod.ext (Prod.mk.inj h).1 h3⟩
   ·rw [if_neg h3] at h;cases h
  ·rw [if_pos h2] at h;cases h
 ·rw [if_pos h1] at h;cases h
end
section
inductive Kd where
  | move
  | scale
  | turn
  | skew
def Kd.n:Kd->Nat
  | .move=>2
  | .scale=>2
  | .turn=>1
  | .skew=>1
def kdOf (b:ByteArray):Option Kd:=if b=bMove then some .move else if b=bScale then some .scale else if b=bTurn then some .turn else if b=bSkew then some .skew else none
def rdF (a:ByteArray):Fr:=⟨(rd a.data.toList).n,(rd a.data.toList).d⟩
def rdC (a:ByteArray):Nat:=(rd a.data.toList).c
def rd2 (mk:Fr->Fr->Mv) (a b:ByteArray):Mv × Nat:=if rdC a≠0 then (.zero,rdC a) else if rdC b≠0 then (.zero,rdC b) else (mk (rdF a) (rdF b),0)
def rd1 (mk:Fr->Mv) (a:ByteArray):Mv × Nat:=if rdC a≠0 then (.zero,rdC a) else (mk (rdF a),0)
def turnR (a:ByteArray):Mv × Nat:=
  if a=⟨#[48]⟩ then (.turn 1 0,0) else if a=⟨#[49]⟩ then (.turn 0 1,0) else if a=⟨#[50]⟩ then (.turn (-1) 0,0) else if a=⟨#[51]⟩ then (.turn 0 (-1),0) else (.zero,1)
def kdR:Kd->List ByteArray->Mv × Nat
  | .move,a :: b :: _=>rd2 Mv.shift a b
  | .scale,a :: b :: _=>rd2 Mv.scale a b
  | .turn,a :: _=>turnR a
  | .skew,a :: _=>rd1 Mv.skew a
  | _,_=>(.zero,1)
def readL:Nat->List ByteArray->List Mv->List Mv × Nat
  | _,[],acc=>(acc,0)
  | 0,_ :: _,_=>([],1)
  | f+1,k :: ws,acc=>match kdOf k with
    | none=>([],1)
    | some kd=>if ws.length<kd.n then ([],1) else if (kdR kd ws).2=0 then readL f (ws.drop kd.n) (acc++[(kdR kd ws).1]) else ([],(kdR kd ws).2)
def foldR:Mv->List Mv->Mv × Nat
  | m,[]=>(m,0)
  | m,n :: l=>if (thenS m n).2=0 then foldR (thenS m n).1 l else (.zero,2)
def words (s:ByteArray):List ByteArray:=Lib.splitB ⟨#[32]⟩ 0 (Lib.countB s ⟨#[32]⟩) s
def listR (s:ByteArray):List Mv × Nat:=if s.size=0 then ([],0) else readL (words s).length (words s) []
def readR (s:ByteArray):Mv × Nat:=if (listR s).2=0 then foldR .one (listR s).1.reverse else (.zero,(listR s).2)
theorem rd_ok {l:List UInt8} (h:(rd l).c=0):chk (rd l).n (rd l).d=0:=by
  unfold rd at h ⊢
  cases hn:numTxt (ahead 47 l) with
  | none=>rw [hn] at h;cases h
  | some n=>
    rw [hn] at h;simp only at h ⊢
    cases hb:behind 47 l with
    | none=>
      rw [hb] at h;simp only [ck] at h ⊢
      split at h
      · rename_i hc;simp [hc]
      · rename_i hc;exact (hc h).elim
    | some b=>
      rw [hb] at h;simp only at h ⊢
      split at h
      · rename_i hd
        simp only [ck] at h ⊢
        split at h
        · rename_i hc;simp [hd,hc]
        · rename_i hc;exact (hc h).elim
      · cases h
theorem rdF_ok {a:ByteArray} (h:rdC a=0):(rdF a).ok:=rd_ok h
theorem shift_ok' {x y:Fr} (hx:x.ok) (hy:y.ok):(Mv.shift x y).ok:=⟨whole_ok (by decide),whole_ok (by decide),whole_ok (by decide),whole_ok (by decide),hx,hy⟩
theorem scale_ok' {x y:Fr} (hx:x.ok) (hy:y.ok):(Mv.scale x y).ok:=⟨hx,whole_ok (by decide),whole_ok (by decide),hy,whole_ok (by decide),whole_ok (by decide)⟩
theorem skew_ok' {x:Fr} (hx:x.ok):(Mv.skew x).ok:=⟨whole_ok (by decide),whole_ok (by decide),hx,whole_ok (by decide),whole_ok (by decide),whole_ok (by decide)⟩
theorem turn_ok' {c s:Int} (hc:c.natAbs<=1) (hs:s.natAbs<=1):(Mv.turn c s).ok:=⟨whole_ok (by omega),whole_ok (by omega),whole_ok (by omega),whole_ok (by omega),whole_ok (by decide),whole_ok (by decide)⟩
theorem rd2_ok {mk:Fr->Fr->Mv} (hm:∀ x y,x.ok->y.ok->(mk x y).ok) {a b:ByteArray} (h:(rd2 mk a b).2=0):(rd2 mk a b).1.ok:=by
  unfold rd2 at h ⊢
  by_cases h1:rdC a=0
  · rw [if_neg (by simp [h1])] at h ⊢
    by_cases h2:rdC b=0
    · rw [if_neg (by simp [h2])];exact hm _ _ (rdF_ok h1) (rdF_ok h2)
    · rw [if_pos h2] at h;exact (h2 h).elim
  · rw [if_pos h1] at h;exact (h1 h).elim
theorem kdR_ok {kd:Kd} {ws:List ByteArray} (h:(kdR kd ws).2=0):(kdR kd ws).1.ok:=by
  unfold kdR at h ⊢
  split
  · exact rd2_ok (fun _ _=>shift_ok') h
  · exact rd2_ok (fun _ _=>scale_ok') h
  · simp only [turnR] at h ⊢
    repeat' split
    all_goals first | exact turn_ok' (by decide) (by decide) | skip
    rename_i h1 h2 h3 h4
    simp [h1,h2,h3,h4] at h
  · simp only [rd1] at h ⊢
    split
    · rename_i h1;rw [if_pos h1] at h;exact (h1 h).elim
    · rename_i h1;exact skew_ok' (rdF_ok (by simpa using h1))
  · rename_i h1 h2 h3 h4
    exfalso
    revert h
    split
    · exact (h1 _ _ _ rfl rfl).elim
    · exact (h2 _ _ _ rfl rfl).elim
    · exact (h3 _ _ rfl rfl).elim
    · exact (h4 _ _ rfl rfl).elim
    · intro h;cases h
theorem readL_ok:∀ (f:Nat) (ws:List ByteArray) (acc:List Mv),(∀ m ∈ acc,m.ok)->(readL f ws acc).2=0->∀ m ∈ (readL f ws acc).1,m.ok
  | _,[],acc,h,_=>by simpa [readL] using h
  | 0,_ :: _,_,_,h=>by simp [readL] at h
  | f+1,k :: ws,acc,ha,h=>by
    unfold readL at h ⊢
    cases hk:kdOf k with
    | none=>rw [hk] at h;simp at h
    | some kd=>
      rw [hk] at h
      simp only at h ⊢
      by_cases hl:ws.length<kd.n
      · rw [if_pos hl] at h;simp at h
      · rw [if_neg hl] at h ⊢
        by_cases hc:(kdR kd ws).2=0
        · rw [if_pos hc] at h ⊢
          exact readL_ok f _ _ (fun m hm=>by rcases List.mem_append.1 hm with h | h;exact ha m h;simp at h;subst h;exact kdR_ok hc) h
        · rw [if_neg hc] at h;exact (hc h).elim
end
section
open Go.RowKit
set_option maxHeartbeats 4000000
set_option maxRecDepth 20000
attribute [local go_sem] run_store_func_m
theorem skew_any (g c:Nat) (x1:Fr) (W:World) (k0:W.cell? ⟨g,0,none⟩=some (.int .i64 x1.n)) (k1:W.cell? ⟨g,1,none⟩=some (.int .i64 x1.d)) :
  Calls Tryz.prog 270 #[.slice (some ⟨g,0,none⟩) 1 c] W fun e w'=>e=.returned (mv (Mv.skew x1))/\Below W.heap.size W w':=by
 have HO:=One_any
 have lt:=cell_lt k0
 simp only at lt
 have L0:=(Below.refl W.heap.size W).alloc Nat.le.refl (.cells #[.int .i64 0,.int .i64 0,.int .i64 0,.int .i64 0,.int .i64 0,.int .i64 0,.int .i64 0,.int .i64 0,.int .i64 0,.int .i64 0,.int .i64 0,.int .i64 0] 113)
 have B0:=Blk.new W #[.int .i64 0,.int .i64 0,.int .i64 0,.int .i64 0,.int .i64 0,.int .i64 0,.int .i64 0,.int .i64 0,.int .i64 0,.int .i64 0,.int .i64 0,.int .i64 0] 113
 go_enter Tryz.func270,Tryz.ntmps270
 go_wp2_with (go_at_call 45;refine (HO _).mono ?_;rintro e w1 ⟨rfl,hb1⟩;have LO:=L0.trans (hb1.mono (by simp));have sz:=hb1.size;simp only [World.size_alloc] at sz;have B1:=B0.below hb1 Nat.le.refl;have n1:¬ w1.heap.size=W.heap.size:=(by omega);have n2:¬ W.heap.size=w1.heap.size:=(by omega);have n3:¬ g=w1.heap.size:=(by omega);have n4:¬ w1.heap.size=g:=(by omega);dsimp only [Mv.one,Fr.whole];have g0:=fun o=>cell_al o ((LO.cell (p:=⟨g,0,none⟩) (cell_lt k0)).trans k0);have g1:=fun o=>cell_al o ((LO.cell (p:=⟨g,1,none⟩) (cell_lt k1)).trans k1);have zc0:=fun o=>cell_al o (B1.cell 0 _ rfl);have zf0:=fun o=>froz_al o (B1.cell 0 _ rfl) (B1.froz 0 _ rfl);have zc1:=fun o=>cell_al o (B1.cell 1 _ rfl);have zf1:=fun o=>froz_al o (B1.cell 1 _ rfl) (B1.froz 1 _ rfl);have zc2:=fun o=>cell_al o (B1.cell 2 _ rfl);have zf2:=fun o=>froz_al o (B1.cell 2 _ rfl) (B1.froz 2 _ rfl);have zc3:=fun o=>cell_al o (B1.cell 3 _ rfl);have zf3:=fun o=>froz_al o (B1.cell 3 _ rfl) (B1.froz 3 _ rfl);have zc4:=fun o=>cell_al o (B1.cell 4 _ rfl);have zf4:=fun o=>froz_al o (B1.cell 4 _ rfl) (B1.froz 4 _ rfl);have zc5:=fun o=>cell_al o (B1.cell 5 _ rfl);have zf5:=fun o=>froz_al o (B1.cell 5 _ rfl) (B1.froz 5 _ rfl);have zc6:=fun o=>cell_al o (B1.cell 6 _ rfl);have zf6:=fun o=>froz_al o (B1.cell 6 _ rfl) (B1.froz 6 _ rfl);have zc7:=fun o=>cell_al o (B1.cell 7 _ rfl);have zf7:=fun o=>froz_al o (B1.cell 7 _ rfl) (B1.froz 7 _ rfl);have zc8:=fun o=>cell_al o (B1.cell 8 _ rfl);have zf8:=fun o=>froz_al o (B1.cell 8 _ rfl) (B1.froz 8 _ rfl);have zc9:=fun o=>cell_al o (B1.cell 9 _ rfl);have zf9:=fun o=>froz_al o (B1.cell 9 _ rfl) (B1.froz 9 _ rfl);have zc10:=fun o=>cell_al o (B1.cell 10 _ rfl);have zf10:=fun o=>froz_al o (B1.cell 10 _ rfl) (B1.froz 10 _ rfl);have zc11:=fun o=>cell_al o (B1.cell 11 _ rfl);have zf11:=fun o=>froz_al o (B1.cell 11 _ rfl) (B1.froz 11 _ rfl))
 refine bodyPost_ret (v:=mv (Mv.skew x1)) (by simp [results,Tryz.results270,go_sem,Mv.skew,Fr.whole,zc0,zc1,zc2,zc3,zc4,zc5,zc6,zc7,zc8,zc9,zc10,zc11]) rfl ⟨rfl,?_⟩
 exact (put_below (R:=W.heap.size) Nat.le.refl [.int .i64 1,.int .i64 1,.int .i64 0,.int .i64 1,.int .i64 x1.n,.int .i64 x1.d,.int .i64 1,.int .i64 1,.int .i64 0,.int .i64 1,.int .i64 0,.int .i64 1] 0 (LO.alloc (by omega) (.cells #[.int .i64 1,.int .i64 1,.int .i64 0,.int .i64 1,.int .i64 x1.n,.int .i64 x1.d,.int .i64 1,.int .i64 1,.int .i64 0,.int .i64 1,.int .i64 0,.int .i64 1] 113)))
theorem turn_0 (g o c:Nat) (W:World) (k0:W.cell? ⟨g,o,none⟩=some (.string ⟨#[48]⟩)) :
  Calls Tryz.prog 269 #[.slice (some ⟨g,o,none⟩) 1 c] W fun e w'=>e=.returned (.tuple #[mv (Mv.turn 1 0),.nilIface])/\Below W.heap.size W w':=by
 have HO:=One_any
 obtain ⟨K2,K3,K4,K5⟩:=And.intro whole_any (And.intro whole_any (And.intro whole_any whole_any))
 have k1:=fun o=>cell_al o k0
 have L0:=(Below.refl W.heap.size W).alloc Nat.le.refl (.cells #[.int .i64 0,.int .i64 0,.int .i64 0,.int .i64 0,.int .i64 0,.int .i64 0,.int .i64 0,.int .i64 0,.int .i64 0,.int .i64 0,.int .i64 0,.int .i64 0] 113)
 have B0:=Blk.new W #[.int .i64 0,.int .i64 0,.int .i64 0,.int .i64 0,.int .i64 0,.int .i64 0,.int .i64 0,.int .i64 0,.int .i64 0,.int .i64 0,.int .i64 0,.int .i64 0] 113
 go_enter Tryz.func269,Tryz.ntmps269
 go_wp2_with (first | (go_at_call 45;refine (HO _).mono ?_;clear HO;rintro e w1 ⟨rfl,hb1⟩;have L1:=L0.trans (hb1.mono (by simp));have sz1:=hb1.size;simp only [World.size_alloc] at sz1;have B1:=(B0.below hb1 Nat.le.refl).alloc (.cells #[.int .i64 1,.int .i64 1,.int .i64 0,.int .i64 1,.int .i64 0,.int .i64 1,.int .i64 1,.int .i64 1,.int .i64 0,.int .i64 1,.int .i64 0,.int .i64 1] 113);have M1:=Blk.new w1 #[.int .i64 1,.int .i64 1,.int .i64 0,.int .i64 1,.int .i64 0,.int .i64 1,.int .i64 1,.int .i64 1,.int .i64 0,.int .i64 1,.int .i64 0,.int .i64 1] 113;have A1:=L1.alloc (by omega) (.cells #[.int .i64 1,.int .i64 1,.int .i64 0,.int .i64 1,.int .i64 0,.int .i64 1,.int .i64 1,.int .i64 1,.int .i64 0,.int .i64 1,.int .i64 0,.int .i64 1] 113);have n1:¬ w1.heap.size=W.heap.size:=(by omega);have n2:¬ W.heap.size=w1.heap.size:=(by omega);dsimp only [Mv.one,Fr.whole]) | (go_at_call 86;refine (K2 _ _).mono ?_;clear K2;rintro e w2 ⟨rfl,hb2⟩;have B2:=B1.below hb2 Nat.le.refl;have M2:=M1.below hb2 Nat.le.refl;have A2:=A1.trans (hb2.mono A1.size)) | (go_at_call 86;refine (K3 _ _).mono ?_;clear K3;rintro e w3 ⟨rfl,hb3⟩;have B3:=B2.below hb3 Nat.le.refl;have M3:=M2.below hb3 Nat.le.refl;have A3:=A2.trans (hb3.mono A2.size)) | (go_at_call 86;refine (K4 _ _).mono ?_;clear K4;rintro e w4 ⟨rfl,hb4⟩;have B4:=B3.below hb4 Nat.le.refl;have M4:=M3.below hb4 Nat.le.refl;have A4:=A3.trans (hb4.mono A3.size)) | (go_at_call 86;refine (K5 _ _).mono ?_;clear K5;rintro e w5 ⟨rfl,hb5⟩;have B5:=B4.below hb5 Nat.le.refl;have M5:=M4.below hb5 Nat.le.refl;have A5:=A4.trans (hb5.mono A4.size);have zc0:=B5.cell 0 _ rfl;have zf0:=B5.froz 0 _ rfl;have mc0:=M5.cell 0 _ rfl;have mf0:=M5.froz 0 _ rfl;have zc1:=B5.cell 1 _ rfl;have zf1:=B5.froz 1 _ rfl;have mc1:=M5.cell 1 _ rfl;have mf1:=M5.froz 1 _ rfl;have zc2:=B5.cell 2 _ rfl;have zf2:=B5.froz 2 _ rfl;have mc2:=M5.cell 2 _ rfl;have mf2:=M5.froz 2 _ rfl;have zc3:=B5.cell 3 _ rfl;have zf3:=B5.froz 3 _ rfl;have mc3:=M5.cell 3 _ rfl;have mf3:=M5.froz 3 _ rfl;have zc4:=B5.cell 4 _ rfl;have zf4:=B5.froz 4 _ rfl;have mc4:=M5.cell 4 _ rfl;have mf4:=M5.froz 4 _ rfl;have zc5:=B5.cell 5 _ rfl;have zf5:=B5.froz 5 _ rfl;have mc5:=M5.cell 5 _ rfl;have mf5:=M5.froz 5 _ rfl;have zc6:=B5.cell 6 _ rfl;have zf6:=B5.froz 6 _ rfl;have mc6:=M5.cell 6 _ rfl;have mf6:=M5.froz 6 _ rfl;have zc7:=B5.cell 7 _ rfl;have zf7:=B5.froz 7 _ rfl;have mc7:=M5.cell 7 _ rfl;have mf7:=M5.froz 7 _ rfl;have zc8:=B5.cell 8 _ rfl;have zf8:=B5.froz 8 _ rfl;have mc8:=M5.cell 8 _ rfl;have mf8:=M5.froz 8 _ rfl;have zc9:=B5.cell 9 _ rfl;have zf9:=B5.froz 9 _ rfl;have mc9:=M5.cell 9 _ rfl;have mf9:=M5.froz 9 _ rfl;have zc10:=B5.cell 10 _ rfl;have zf10:=B5.froz 10 _ rfl;have mc10:=M5.cell 10 _ rfl;have mf10:=M5.froz 10 _ rfl;have zc11:=B5.cell 11 _ rfl;have zf11:=B5.froz 11 _ rfl;have mc11:=M5.cell 11 _ rfl;have mf11:=M5.froz 11 _ rfl))
 refine bodyPost_ret (v:=.tuple #[mv (Mv.turn 1 0),.nilIface]) (by simp [results,Tryz.results269,go_sem,Mv.turn,Fr.whole,zc0,zc1,zc2,zc3,zc4,zc5,zc6,zc7,zc8,zc9,zc10,zc11]) rfl ⟨rfl,?_⟩
 exact put_below (R:=W.heap.size) Nat.le.refl [.int .i64 1,.int .i64 1,.int .i64 0,.int .i64 1,.int .i64 0,.int .i64 1,.int .i64 1,.int .i64 1,.int .i64 0,.int .i64 1,.int .i64 0,.int .i64 1] 0 (put_below (R:=w1.heap.size) (by omega) [.int .i64 1,.int .i64 1,.int .i64 0,.int .i64 1,.int .i64 0,.int .i64 1,.int .i64 1,.int .i64 1] 0 A5)
theorem turn_1 (g o c:Nat) (W:World) (k0:W.cell? ⟨g,o,none⟩=some (.string ⟨#[49]⟩)) :
  Calls Tryz.prog 269 #[.slice (some ⟨g,o,none⟩) 1 c] W fun e w'=>e=.returned (.tuple #[mv (Mv.turn 0 1),.nilIface])/\Below W.heap.size W w':=by
 have HO:=One_any
 obtain ⟨K2,K3,K4,K5⟩:=And.intro whole_any (And.intro whole_any (And.intro whole_any whole_any))
 have k1:=fun o=>cell_al o k0
 have L0:=(Below.refl W.heap.size W).alloc Nat.le.refl (.cells #[.int .i64 0,.int .i64 0,.int .i64 0,.int .i64 0,.int .i64 0,.int .i64 0,.int .i64 0,.int .i64 0,.int .i64 0,.int .i64 0,.int .i64 0,.int .i64 0] 113)
 have B0:=Blk.new W #[.int .i64 0,.int .i64 0,.int .i64 0,.int .i64 0,.int .i64 0,.int .i64 0,.int .i64 0,.int .i64 0,.int .i64 0,.int .i64 0,.int .i64 0,.int .i64 0] 113
 go_enter Tryz.func269,Tryz.ntmps269
 go_wp2_with (first | (go_at_call 45;refine (HO _).mono ?_;clear HO;rintro e w1 ⟨rfl,hb1⟩;have L1:=L0.trans (hb1.mono (by simp));have sz1:=hb1.size;simp only [World.size_alloc] at sz1;have B1:=(B0.below hb1 Nat.le.refl).alloc (.cells #[.int .i64 1,.int .i64 1,.int .i64 0,.int .i64 1,.int .i64 0,.int .i64 1,.int .i64 1,.int .i64 1,.int .i64 0,.int .i64 1,.int .i64 0,.int .i64 1] 113);have M1:=Blk.new w1 #[.int .i64 1,.int .i64 1,.int .i64 0,.int .i64 1,.int .i64 0,.int .i64 1,.int .i64 1,.int .i64 1,.int .i64 0,.int .i64 1,.int .i64 0,.int .i64 1] 113;have A1:=L1.alloc (by omega) (.cells #[.int .i64 1,.int .i64 1,.int .i64 0,.int .i64 1,.int .i64 0,.int .i64 1,.int .i64 1,.int .i64 1,.int .i64 0,.int .i64 1,.int .i64 0,.int .i64 1] 113);have n1:¬ w1.heap.size=W.heap.size:=(by omega);have n2:¬ W.heap.size=w1.heap.size:=(by omega);dsimp only [Mv.one,Fr.whole]) | (go_at_call 86;refine (K2 _ _).mono ?_;clear K2;rintro e w2 ⟨rfl,hb2⟩;have B2:=B1.below hb2 Nat.le.refl;have M2:=M1.below hb2 Nat.le.refl;have A2:=A1.trans (hb2.mono A1.size)) | (go_at_call 86;refine (K3 _ _).mono ?_;clear K3;rintro e w3 ⟨rfl,hb3⟩;have B3:=B2.below hb3 Nat.le.refl;have M3:=M2.below hb3 Nat.le.refl;have A3:=A2.trans (hb3.mono A2.size)) | (go_at_call 86;refine (K4 _ _).mono ?_;clear K4;rintro e w4 ⟨rfl,hb4⟩;have B4:=B3.below hb4 Nat.le.refl;have M4:=M3.below hb4 Nat.le.refl;have A4:=A3.trans (hb4.mono A3.size)) | (go_at_call 86;refine (K5 _ _).mono ?_;clear K5;rintro e w5 ⟨rfl,hb5⟩;have B5:=B4.below hb5 Nat.le.refl;have M5:=M4.below hb5 Nat.le.refl;have A5:=A4.trans (hb5.mono A4.size);have zc0:=B5.cell 0 _ rfl;have zf0:=B5.froz 0 _ rfl;have mc0:=M5.cell 0 _ rfl;have mf0:=M5.froz 0 _ rfl;have zc1:=B5.cell 1 _ rfl;have zf1:=B5.froz 1 _ rfl;have mc1:=M5.cell 1 _ rfl;have mf1:=M5.froz 1 _ rfl;have zc2:=B5.cell 2 _ rfl;have zf2:=B5.froz 2 _ rfl;have mc2:=M5.cell 2 _ rfl;have mf2:=M5.froz 2 _ rfl;have zc3:=B5.cell 3 _ rfl;have zf3:=B5.froz 3 _ rfl;have mc3:=M5.cell 3 _ rfl;have mf3:=M5.froz 3 _ rfl;have zc4:=B5.cell 4 _ rfl;have zf4:=B5.froz 4 _ rfl;have mc4:=M5.cell 4 _ rfl;have mf4:=M5.froz 4 _ rfl;have zc5:=B5.cell 5 _ rfl;have zf5:=B5.froz 5 _ rfl;have mc5:=M5.cell 5 _ rfl;have mf5:=M5.froz 5 _ rfl;have zc6:=B5.cell 6 _ rfl;have zf6:=B5.froz 6 _ rfl;have mc6:=M5.cell 6 _ rfl;have mf6:=M5.froz 6 _ rfl;have zc7:=B5.cell 7 _ rfl;have zf7:=B5.froz 7 _ rfl;have mc7:=M5.cell 7 _ rfl;have mf7:=M5.froz 7 _ rfl;have zc8:=B5.cell 8 _ rfl;have zf8:=B5.froz 8 _ rfl;have mc8:=M5.cell 8 _ rfl;have mf8:=M5.froz 8 _ rfl;have zc9:=B5.cell 9 _ rfl;have zf9:=B5.froz 9 _ rfl;have mc9:=M5.cell 9 _ rfl;have mf9:=M5.froz 9 _ rfl;have zc10:=B5.cell 10 _ rfl;have zf10:=B5.froz 10 _ rfl;have mc10:=M5.cell 10 _ rfl;have mf10:=M5.froz 10 _ rfl;have zc11:=B5.cell 11 _ rfl;have zf11:=B5.froz 11 _ rfl;have mc11:=M5.cell 11 _ rfl;have mf11:=M5.froz 11 _ rfl))
 refine bodyPost_ret (v:=.tuple #[mv (Mv.turn 0 1),.nilIface]) (by simp [results,Tryz.results269,go_sem,Mv.turn,Fr.whole,zc0,zc1,zc2,zc3,zc4,zc5,zc6,zc7,zc8,zc9,zc10,zc11]) rfl ⟨rfl,?_⟩
 exact put_below (R:=W.heap.size) Nat.le.refl [.int .i64 0,.int .i64 1,.int .i64 1,.int .i64 1,.int .i64 (-1),.int .i64 1,.int .i64 0,.int .i64 1,.int .i64 0,.int .i64 1,.int .i64 0,.int .i64 1] 0 (put_below (R:=w1.heap.size) (by omega) [.int .i64 0,.int .i64 1,.int .i64 1,.int .i64 1,.int .i64 (-1),.int .i64 1,.int .i64 0,.int .i64 1] 0 A5)
theorem turn_2 (g o c:Nat) (W:World) (k0:W.cell? ⟨g,o,none⟩=some (.string ⟨#[50]⟩)) :
  Calls Tryz.prog 269 #[.slice (some ⟨g,o,none⟩) 1 c] W fun e w'=>e=.returned (.tuple #[mv (Mv.turn (-1) 0),.nilIface])/\Below W.heap.size W w':=by
 have HO:=One_any
 obtain ⟨K2,K3,K4,K5⟩:=And.intro whole_any (And.intro whole_any (And.intro whole_any whole_any))
 have k1:=fun o=>cell_al o k0
 have L0:=(Below.refl W.heap.size W).alloc Nat.le.refl (.cells #[.int .i64 0,.int .i64 0,.int .i64 0,.int .i64 0,.int .i64 0,.int .i64 0,.int .i64 0,.int .i64 0,.int .i64 0,.int .i64 0,.int .i64 0,.int .i64 0] 113)
 have B0:=Blk.new W #[.int .i64 0,.int .i64 0,.int .i64 0,.int .i64 0,.int .i64 0,.int .i64 0,.int .i64 0,.int .i64 0,.int .i64 0,.int .i64 0,.int .i64 0,.int .i64 0] 113
 go_enter Tryz.func269,Tryz.ntmps269
 go_wp2_with (first | (go_at_call 45;refine (HO _).mono ?_;clear HO;rintro e w1 ⟨rfl,hb1⟩;have L1:=L0.trans (hb1.mono (by simp));have sz1:=hb1.size;simp only [World.size_alloc] at sz1;have B1:=(B0.below hb1 Nat.le.refl).alloc (.cells #[.int .i64 1,.int .i64 1,.int .i64 0,.int .i64 1,.int .i64 0,.int .i64 1,.int .i64 1,.int .i64 1,.int .i64 0,.int .i64 1,.int .i64 0,.int .i64 1] 113);have M1:=Blk.new w1 #[.int .i64 1,.int .i64 1,.int .i64 0,.int .i64 1,.int .i64 0,.int .i64 1,.int .i64 1,.int .i64 1,.int .i64 0,.int .i64 1,.int .i64 0,.int .i64 1] 113;have A1:=L1.alloc (by omega) (.cells #[.int .i64 1,.int .i64 1,.int .i64 0,.int .i64 1,.int .i64 0,.int .i64 1,.int .i64 1,.int .i64 1,.int .i64 0,.int .i64 1,.int .i64 0,.int .i64 1] 113);have n1:¬ w1.heap.size=W.heap.size:=(by omega);have n2:¬ W.heap.size=w1.heap.size:=(by omega);dsimp only [Mv.one,Fr.whole]) | (go_at_call 86;refine (K2 _ _).mono ?_;clear K2;rintro e w2 ⟨rfl,hb2⟩;have B2:=B1.below hb2 Nat.le.refl;have M2:=M1.below hb2 Nat.le.refl;have A2:=A1.trans (hb2.mono A1.size)) | (go_at_call 86;refine (K3 _ _).mono ?_;clear K3;rintro e w3 ⟨rfl,hb3⟩;have B3:=B2.below hb3 Nat.le.refl;have M3:=M2.below hb3 Nat.le.refl;have A3:=A2.trans (hb3.mono A2.size)) | (go_at_call 86;refine (K4 _ _).mono ?_;clear K4;rintro e w4 ⟨rfl,hb4⟩;have B4:=B3.below hb4 Nat.le.refl;have M4:=M3.below hb4 Nat.le.refl;have A4:=A3.trans (hb4.mono A3.size)) | (go_at_call 86;refine (K5 _ _).mono ?_;clear K5;rintro e w5 ⟨rfl,hb5⟩;have B5:=B4.below hb5 Nat.le.refl;have M5:=M4.below hb5 Nat.le.refl;have A5:=A4.trans (hb5.mono A4.size);have zc0:=B5.cell 0 _ rfl;have zf0:=B5.froz 0 _ rfl;have mc0:=M5.cell 0 _ rfl;have mf0:=M5.froz 0 _ rfl;have zc1:=B5.cell 1 _ rfl;have zf1:=B5.froz 1 _ rfl;have mc1:=M5.cell 1 _ rfl;have mf1:=M5.froz 1 _ rfl;have zc2:=B5.cell 2 _ rfl;have zf2:=B5.froz 2 _ rfl;have mc2:=M5.cell 2 _ rfl;have mf2:=M5.froz 2 _ rfl;have zc3:=B5.cell 3 _ rfl;have zf3:=B5.froz 3 _ rfl;have mc3:=M5.cell 3 _ rfl;have mf3:=M5.froz 3 _ rfl;have zc4:=B5.cell 4 _ rfl;have zf4:=B5.froz 4 _ rfl;have mc4:=M5.cell 4 _ rfl;have mf4:=M5.froz 4 _ rfl;have zc5:=B5.cell 5 _ rfl;have zf5:=B5.froz 5 _ rfl;have mc5:=M5.cell 5 _ rfl;have mf5:=M5.froz 5 _ rfl;have zc6:=B5.cell 6 _ rfl;have zf6:=B5.froz 6 _ rfl;have mc6:=M5.cell 6 _ rfl;have mf6:=M5.froz 6 _ rfl;have zc7:=B5.cell 7 _ rfl;have zf7:=B5.froz 7 _ rfl;have mc7:=M5.cell 7 _ rfl;have mf7:=M5.froz 7 _ rfl;have zc8:=B5.cell 8 _ rfl;have zf8:=B5.froz 8 _ rfl;have mc8:=M5.cell 8 _ rfl;have mf8:=M5.froz 8 _ rfl;have zc9:=B5.cell 9 _ rfl;have zf9:=B5.froz 9 _ rfl;have mc9:=M5.cell 9 _ rfl;have mf9:=M5.froz 9 _ rfl;have zc10:=B5.cell 10 _ rfl;have zf10:=B5.froz 10 _ rfl;have mc10:=M5.cell 10 _ rfl;have mf10:=M5.froz 10 _ rfl;have zc11:=B5.cell 11 _ rfl;have zf11:=B5.froz 11 _ rfl;have mc11:=M5.cell 11 _ rfl;have mf11:=M5.froz 11 _ rfl))
 refine bodyPost_ret (v:=.tuple #[mv (Mv.turn (-1) 0),.nilIface]) (by simp [results,Tryz.results269,go_sem,Mv.turn,Fr.whole,zc0,zc1,zc2,zc3,zc4,zc5,zc6,zc7,zc8,zc9,zc10,zc11]) rfl ⟨rfl,?_⟩
 exact put_below (R:=W.heap.size) Nat.le.refl [.int .i64 (-1),.int .i64 1,.int .i64 0,.int .i64 1,.int .i64 0,.int .i64 1,.int .i64 (-1),.int .i64 1,.int .i64 0,.int .i64 1,.int .i64 0,.int .i64 1] 0 (put_below (R:=w1.heap.size) (by omega) [.int .i64 (-1),.int .i64 1,.int .i64 0,.int .i64 1,.int .i64 0,.int .i64 1,.int .i64 (-1),.int .i64 1] 0 A5)
theorem turn_3 (g o c:Nat) (W:World) (k0:W.cell? ⟨g,o,none⟩=some (.string ⟨#[51]⟩)) :
  Calls Tryz.prog 269 #[.slice (some ⟨g,o,none⟩) 1 c] W fun e w'=>e=.returned (.tuple #[mv (Mv.turn 0 (-1)),.nilIface])/\Below W.heap.size W w':=by
 have HO:=One_any
 obtain ⟨K2,K3,K4,K5⟩:=And.intro whole_any (And.intro whole_any (And.intro whole_any whole_any))
 have k1:=fun o=>cell_al o k0
 have L0:=(Below.refl W.heap.size W).alloc Nat.le.refl (.cells #[.int .i64 0,.int .i64 0,.int .i64 0,.int .i64 0,.int .i64 0,.int .i64 0,.int .i64 0,.int .i64 0,.int .i64 0,.int .i64 0,.int .i64 0,.int .i64 0] 113)
 have B0:=Blk.new W #[.int .i64 0,.int .i64 0,.int .i64 0,.int .i64 0,.int .i64 0,.int .i64 0,.int .i64 0,.int .i64 0,.int .i64 0,.int .i64 0,.int .i64 0,.int .i64 0] 113
 go_enter Tryz.func269,Tryz.ntmps269
 go_wp2_with (first | (go_at_call 45;refine (HO _).mono ?_;clear HO;rintro e w1 ⟨rfl,hb1⟩;have L1:=L0.trans (hb1.mono (by simp));have sz1:=hb1.size;simp only [World.size_alloc] at sz1;have B1:=(B0.below hb1 Nat.le.refl).alloc (.cells #[.int .i64 1,.int .i64 1,.int .i64 0,.int .i64 1,.int .i64 0,.int .i64 1,.int .i64 1,.int .i64 1,.int .i64 0,.int .i64 1,.int .i64 0,.int .i64 1] 113);have M1:=Blk.new w1 #[.int .i64 1,.int .i64 1,.int .i64 0,.int .i64 1,.int .i64 0,.int .i64 1,.int .i64 1,.int .i64 1,.int .i64 0,.int .i64 1,.int .i64 0,.int .i64 1] 113;have A1:=L1.alloc (by omega) (.cells #[.int .i64 1,.int .i64 1,.int .i64 0,.int .i64 1,.int .i64 0,.int .i64 1,.int .i64 1,.int .i64 1,.int .i64 0,.int .i64 1,.int .i64 0,.int .i64 1] 113);have n1:¬ w1.heap.size=W.heap.size:=(by omega);have n2:¬ W.heap.size=w1.heap.size:=(by omega);dsimp only [Mv.one,Fr.whole]) | (go_at_call 86;refine (K2 _ _).mono ?_;clear K2;rintro e w2 ⟨rfl,hb2⟩;have B2:=B1.below hb2 Nat.le.refl;have M2:=M1.below hb2 Nat.le.refl;have A2:=A1.trans (hb2.mono A1.size)) | (go_at_call 86;refine (K3 _ _).mono ?_;clear K3;rintro e w3 ⟨rfl,hb3⟩;have B3:=B2.below hb3 Nat.le.refl;have M3:=M2.below hb3 Nat.le.refl;have A3:=A2.trans (hb3.mono A2.size)) | (go_at_call 86;refine (K4 _ _).mono ?_;clear K4;rintro e w4 ⟨rfl,hb4⟩;have B4:=B3.below hb4 Nat.le.refl;have M4:=M3.below hb4 Nat.le.refl;have A4:=A3.trans (hb4.mono A3.size)) | (go_at_call 86;refine (K5 _ _).mono ?_;clear K5;rintro e w5 ⟨rfl,hb5⟩;have B5:=B4.below hb5 Nat.le.refl;have M5:=M4.below hb5 Nat.le.refl;have A5:=A4.trans (hb5.mono A4.size);have zc0:=B5.cell 0 _ rfl;have zf0:=B5.froz 0 _ rfl;have mc0:=M5.cell 0 _ rfl;have mf0:=M5.froz 0 _ rfl;have zc1:=B5.cell 1 _ rfl;have zf1:=B5.froz 1 _ rfl;have mc1:=M5.cell 1 _ rfl;have mf1:=M5.froz 1 _ rfl;have zc2:=B5.cell 2 _ rfl;have zf2:=B5.froz 2 _ rfl;have mc2:=M5.cell 2 _ rfl;have mf2:=M5.froz 2 _ rfl;have zc3:=B5.cell 3 _ rfl;have zf3:=B5.froz 3 _ rfl;have mc3:=M5.cell 3 _ rfl;have mf3:=M5.froz 3 _ rfl;have zc4:=B5.cell 4 _ rfl;have zf4:=B5.froz 4 _ rfl;have mc4:=M5.cell 4 _ rfl;have mf4:=M5.froz 4 _ rfl;have zc5:=B5.cell 5 _ rfl;have zf5:=B5.froz 5 _ rfl;have mc5:=M5.cell 5 _ rfl;have mf5:=M5.froz 5 _ rfl;have zc6:=B5.cell 6 _ rfl;have zf6:=B5.froz 6 _ rfl;have mc6:=M5.cell 6 _ rfl;have mf6:=M5.froz 6 _ rfl;have zc7:=B5.cell 7 _ rfl;have zf7:=B5.froz 7 _ rfl;have mc7:=M5.cell 7 _ rfl;have mf7:=M5.froz 7 _ rfl;have zc8:=B5.cell 8 _ rfl;have zf8:=B5.froz 8 _ rfl;have mc8:=M5.cell 8 _ rfl;have mf8:=M5.froz 8 _ rfl;have zc9:=B5.cell 9 _ rfl;have zf9:=B5.froz 9 _ rfl;have mc9:=M5.cell 9 _ rfl;have mf9:=M5.froz 9 _ rfl;have zc10:=B5.cell 10 _ rfl;have zf10:=B5.froz 10 _ rfl;have mc10:=M5.cell 10 _ rfl;have mf10:=M5.froz 10 _ rfl;have zc11:=B5.cell 11 _ rfl;have zf11:=B5.froz 11 _ rfl;have mc11:=M5.cell 11 _ rfl;have mf11:=M5.froz 11 _ rfl))
 refine bodyPost_ret (v:=.tuple #[mv (Mv.turn 0 (-1)),.nilIface]) (by simp [results,Tryz.results269,go_sem,Mv.turn,Fr.whole,zc0,zc1,zc2,zc3,zc4,zc5,zc6,zc7,zc8,zc9,zc10,zc11]) rfl ⟨rfl,?_⟩
 exact put_below (R:=W.heap.size) Nat.le.refl [.int .i64 0,.int .i64 1,.int .i64 (-1),.int .i64 1,.int .i64 1,.int .i64 1,.int .i64 0,.int .i64 1,.int .i64 0,.int .i64 1,.int .i64 0,.int .i64 1] 0 (put_below (R:=w1.heap.size) (by omega) [.int .i64 0,.int .i64 1,.int .i64 (-1),.int .i64 1,.int .i64 1,.int .i64 1,.int .i64 0,.int .i64 1] 0 A5)
theorem ne_str {k:ByteArray} {l:List UInt8} (h:k≠⟨l.toArray⟩):(k.toList==l)=false:=by
 rw [ByteArray.toList_eq,beq_eq_false_iff_ne]
 intro e
 exact h (ext_list (by rw [e]))
theorem run_store_nilFunc' (P:Program) (w:World) (a:Addr) (m:Mode):(store a .nilFunc m).run P w=stored P w a .nilFunc m:=run_store P w a _ m rfl
attribute [local go_sem] run_store_nilFunc'
theorem kindOf_none (k:ByteArray) (W:World) (h0:k≠bMove) (h1:k≠bScale) (h2:k≠bTurn) (h3:k≠bSkew) :
  Calls Tryz.prog 221 #[.string k] W fun e w'=>e=.returned (.tuple #[.agg #[.int .i64 0,.nilFunc],.bool false])/\Below W.heap.size W w':=by
 have e0:=ne_str (l:=[109,111,118,101]) h0
 have e1:=ne_str (l:=[115,99,97,108,101]) h1
 have e2:=ne_str (l:=[116,117,114,110]) h2
 have e3:=ne_str (l:=[115,107,101,119]) h3
 go_enter Tryz.func221,Tryz.ntmps221
 go_wp2
 refine bodyPost_ret (v:=.tuple #[.agg #[.int .i64 0,.nilFunc],.bool false]) (by simp [results,Tryz.results221,go_sem]) rfl ⟨rfl,?_⟩
 exact (Below.refl _ W).alloc Nat.le.refl _
end
end Go.Proofs.YtgphclgmmocdhaaGreatDoor

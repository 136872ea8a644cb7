/-
  Parts of the proof.
-/
import Derived.Test.YtgphclgmmocdhaaGreatDoorQu21
namespace Go.Proofs.YtgphclgmmocdhaaGreatDoor
section
open Go.RowKit
set_option maxHeartbeats 4000000
set_option maxRecDepth 20000
attribute [local go_sem] run_store_func_m
theorem skew_any (g c:Nat) (x1:Fr) (W:World) (k0:W.cell? ⟨g,0,none⟩=some (.int .i64 x1.n)) (k1:W.cell? ⟨g,1,none⟩=some (.int .i64 x1.d)) :
  Calls Tryz.prog 270 #[.slice (some ⟨g,0,none⟩) 1 c] W fun e w'=>e=.returned (mv (Mv.skew x1))/\Below W.heap.size W w':=by
 have HO:=One_any
 have lt:=cell_lt k0
 simp only at lt
 have L0:=(Below.refl W.heap.size W).alloc Nat.le.refl (.cells #[.int .i64 0,.int .i64 0,.int .i64 0,.int .i64 0,.int .i64 0,.int .i64 0,.int .i64 0,.int .i64 0,.int .i64 0,.int .i64 0,.int .i64 0,.int .i64 0] 113)
 have B0:=Blk.new W #[.int .i64 0,.int .i64 0,.int .i64 0,.int .i64 0,.int .i64 0,.int .i64 0,.int .i64 0,.int .i64 0,.int .i64 0,.int .i64 0,.int .i64 0,.int .i64 0] 113
 go_enter Tryz.func270,Tryz.ntmps270
 go_wp2_with (go_at_call 45;refine (HO _).mono ?_;rintro e w1 ⟨rfl,hb1⟩;have LO:=L0.trans (hb1.mono (by simp));have sz:=hb1.size;simp only [World.size_alloc] at sz;have B1:=B0.below hb1 Nat.le.refl;have n1:¬ w1.heap.size=W.heap.size:=(by omega);have n2:¬ W.heap.size=w1.heap.size:=(by omega);have n3:¬ g=w1.heap.size:=(by omega);have n4:¬ w1.heap.size=g:=(by omega);dsimp only [Mv.one,Fr.whole];have g0:=fun o=>cell_al o ((LO.cell (p:=⟨g,0,none⟩) (cell_lt k0)).trans k0);have g1:=fun o=>cell_al o ((LO.cell (p:=⟨g,1,none⟩) (cell_lt k1)).trans k1);have zc0:=fun o=>cell_al o (B1.cell 0 _ rfl);have zf0:=fun o=>froz_al o (B1.cell 0 _ rfl) (B1.froz 0 _ rfl);have zc1:=fun o=>cell_al o (B1.cell 1 _ rfl);have zf1:=fun o=>froz_al o (B1.cell 1 _ rfl) (B1.froz 1 _ rfl);have zc2:=fun o=>cell_al o (B1.cell 2 _ rfl);have zf2:=fun o=>froz_al o (B1.cell 2 _ rfl) (B1.froz 2 _ rfl);have zc3:=fun o=>cell_al o (B1.cell 3 _ rfl);have zf3:=fun o=>froz_al o (B1.cell 3 _ rfl) (B1.froz 3 _ rfl);have zc4:=fun o=>cell_al o (B1.cell 4 _ rfl);have zf4:=fun o=>froz_al o (B1.cell 4 _ rfl) (B1.froz 4 _ rfl);have zc5:=fun o=>cell_al o (B1.cell 5 _ rfl);have zf5:=fun o=>froz_al o (B1.cell 5 _ rfl) (B1.froz 5 _ rfl);have zc6:=fun o=>cell_al o (B1.cell 6 _ rfl);have zf6:=fun o=>froz_al o (B1.cell 6 _ rfl) (B1.froz 6 _ rfl);have zc7:=fun o=>cell_al o (B1.cell 7 _ rfl);have zf7:=fun o=>froz_al o (B1.cell 7 _ rfl) (B1.froz 7 _ rfl);have zc8:=fun o=>cell_al o (B1.cell 8 _ rfl);have zf8:=fun o=>froz_al o (B1.cell 8 _ rfl) (B1.froz 8 _ rfl);have zc9:=fun o=>cell_al o (B1.cell 9 _ rfl);have zf9:=fun o=>froz_al o (B1.cell 9 _ rfl) (B1.froz 9 _ rfl);have zc10:=fun o=>cell_al o (B1.cell 10 _ rfl);have zf10:=fun o=>froz_al o (B1.cell 10 _ rfl) (B1.froz 10 _ rfl);have zc11:=fun o=>cell_al o (B1.cell 11 _ rfl);have zf11:=fun o=>froz_al o (B1.cell 11 _ rfl) (B1.froz 11 _ rfl))
 refine bodyPost_ret (v:=mv (Mv.skew x1)) (by simp [results,Tryz.results270,go_sem,Mv.skew,Fr.whole,zc0,zc1,zc2,zc3,zc4,zc5,zc6,zc7,zc8,zc9,zc10,zc11]) rfl ⟨rfl,?_⟩
 exact (put_below (R:=W.heap.size) Nat.le.refl [.int .i64 1,.int .i64 1,.int .i64 0,.int .i64 1,.int .i64 x1.n,.int .i64 x1.d,.int .i64 1,.int .i64 1,.int .i64 0,.int .i64 1,.int .i64 0,.int .i64 1] 0 (LO.alloc (by omega) (.cells #[.int .i64 1,.int .i64 1,.int .i64 0,.int .i64 1,.int .i64 x1.n,.int .i64 x1.d,.int .i64 1,.int .i64 1,.int .i64 0,.int .i64 1,.int .i64 0,.int .i64 1] 113)))
theorem turn_0 (g o c:Nat) (W:World) (k0:W.cell? ⟨g,o,none⟩=some (.string ⟨#[48]⟩)) :
  Calls Tryz.prog 269 #[.slice (some ⟨g,o,none⟩) 1 c] W fun e w'=>e=.returned (.tuple #[mv (Mv.turn 1 0),.nilIface])/\Below W.heap.size W w':=by
 have HO:=One_any
 obtain ⟨K2,K3,K4,K5⟩:=And.intro whole_any (And.intro whole_any (And.intro whole_any whole_any))
 have k1:=fun o=>cell_al o k0
 have L0:=(Below.refl W.heap.size W).alloc Nat.le.refl (.cells #[.int .i64 0,.int .i64 0,.int .i64 0,.int .i64 0,.int .i64 0,.int .i64 0,.int .i64 0,.int .i64 0,.int .i64 0,.int .i64 0,.int .i64 0,.int .i64 0] 113)
 have B0:=Blk.new W #[.int .i64 0,.int .i64 0,.int .i64 0,.int .i64 0,.int .i64 0,.int .i64 0,.int .i64 0,.int .i64 0,.int .i64 0,.int .i64 0,.int .i64 0,.int .i64 0] 113
 go_enter Tryz.func269,Tryz.ntmps269
 go_wp2_with (first | (go_at_call 45;refine (HO _).mono ?_;clear HO;rintro e w1 ⟨rfl,hb1⟩;have L1:=L0.trans (hb1.mono (by simp));have sz1:=hb1.size;simp only [World.size_alloc] at sz1;have B1:=(B0.below hb1 Nat.le.refl).alloc (.cells #[.int .i64 1,.int .i64 1,.int .i64 0,.int .i64 1,.int .i64 0,.int .i64 1,.int .i64 1,.int .i64 1,.int .i64 0,.int .i64 1,.int .i64 0,.int .i64 1] 113);have M1:=Blk.new w1 #[.int .i64 1,.int .i64 1,.int .i64 0,.int .i64 1,.int .i64 0,.int .i64 1,.int .i64 1,.int .i64 1,.int .i64 0,.int .i64 1,.int .i64 0,.int .i64 1] 113;have A1:=L1.alloc (by omega) (.cells #[.int .i64 1,.int .i64 1,.int .i64 0,.int .i64 1,.int .i64 0,.int .i64 1,.int .i64 1,.int .i64 1,.int .i64 0,.int .i64 1,.int .i64 0,.int .i64 1] 113);have n1:¬ w1.heap.size=W.heap.size:=(by omega);have n2:¬ W.heap.size=w1.heap.size:=(by omega);dsimp only [Mv.one,Fr.whole]) | (go_at_call 86;refine (K2 _ _).mono ?_;clear K2;rintro e w2 ⟨rfl,hb2⟩;have B2:=B1.below hb2 Nat.le.refl;have M2:=M1.below hb2 Nat.le.refl;have A2:=A1.trans (hb2.mono A1.size)) | (go_at_call 86;refine (K3 _ _).mono ?_;clear K3;rintro e w3 ⟨rfl,hb3⟩;have B3:=B2.below hb3 Nat.le.refl;have M3:=M2.below hb3 Nat.le.refl;have A3:=A2.trans (hb3.mono A2.size)) | (go_at_call 86;refine (K4 _ _).mono ?_;clear K4;rintro e w4 ⟨rfl,hb4⟩;have B4:=B3.below hb4 Nat.le.refl;have M4:=M3.below hb4 Nat.le.refl;have A4:=A3.trans (hb4.mono A3.size)) | (go_at_call 86;refine (K5 _ _).mono ?_;clear K5;rintro e w5 ⟨rfl,hb5⟩;have B5:=B4.below hb5 Nat.le.refl;have M5:=M4.below hb5 Nat.le.refl;have A5:=A4.trans (hb5.mono A4.size);have zc0:=B5.cell 0 _ rfl;have zf0:=B5.froz 0 _ rfl;have mc0:=M5.cell 0 _ rfl;have mf0:=M5.froz 0 _ rfl;have zc1:=B5.cell 1 _ rfl;have zf1:=B5.froz 1 _ rfl;have mc1:=M5.cell 1 _ rfl;have mf1:=M5.froz 1 _ rfl;have zc2:=B5.cell 2 _ rfl;have zf2:=B5.froz 2 _ rfl;have mc2:=M5.cell 2 _ rfl;have mf2:=M5.froz 2 _ rfl;have zc3:=B5.cell 3 _ rfl;have zf3:=B5.froz 3 _ rfl;have mc3:=M5.cell 3 _ rfl;have mf3:=M5.froz 3 _ rfl;have zc4:=B5.cell 4 _ rfl;have zf4:=B5.froz 4 _ rfl;have mc4:=M5.cell 4 _ rfl;have mf4:=M5.froz 4 _ rfl;have zc5:=B5.cell 5 _ rfl;have zf5:=B5.froz 5 _ rfl;have mc5:=M5.cell 5 _ rfl;have mf5:=M5.froz 5 _ rfl;have zc6:=B5.cell 6 _ rfl;have zf6:=B5.froz 6 _ rfl;have mc6:=M5.cell 6 _ rfl;have mf6:=M5.froz 6 _ rfl;have zc7:=B5.cell 7 _ rfl;have zf7:=B5.froz 7 _ rfl;have mc7:=M5.cell 7 _ rfl;have mf7:=M5.froz 7 _ rfl;have zc8:=B5.cell 8 _ rfl;have zf8:=B5.froz 8 _ rfl;have mc8:=M5.cell 8 _ rfl;have mf8:=M5.froz 8 _ rfl;have zc9:=B5.cell 9 _ rfl;have zf9:=B5.froz 9 _ rfl;have mc9:=M5.cell 9 _ rfl;have mf9:=M5.froz 9 _ rfl;have zc10:=B5.cell 10 _ rfl;have zf10:=B5.froz 10 _ rfl;have mc10:=M5.cell 10 _ rfl;have mf10:=M5.froz 10 _ rfl;have zc11:=B5.cell 11 _ rfl;have zf11:=B5.froz 11 _ rfl;have mc11:=M5.cell 11 _ rfl;have mf11:=M5.froz 11 _ rfl))
 refine bodyPost_ret (v:=.tuple #[mv (Mv.turn 1 0),.nilIface]) (by simp [results,Tryz.results269,go_sem,Mv.turn,Fr.whole,zc0,zc1,zc2,zc3,zc4,zc5,zc6,zc7,zc8,zc9,zc10,zc11]) rfl ⟨rfl,?_⟩
 exact put_below (R:=W.heap.size) Nat.le.refl [.int .i64 1,.int .i64 1,.int .i64 0,.int .i64 1,.int .i64 0,.int .i64 1,.int .i64 1,.int .i64 1,.int .i64 0,.int .i64 1,.int .i64 0,.int .i64 1] 0 (put_below (R:=w1.heap.size) (by omega) [.int .i64 1,.int .i64 1,.int .i64 0,.int .i64 1,.int .i64 0,.int .i64 1,.int .i64 1,.int .i64 1] 0 A5)
theorem turn_1 (g o c:Nat) (W:World) (k0:W.cell? ⟨g,o,none⟩=some (.string ⟨#[49]⟩)) :
  Calls Tryz.prog 269 #[.slice (some ⟨g,o,none⟩) 1 c] W fun e w'=>e=.returned (.tuple #[mv (Mv.turn 0 1),.nilIface])/\Below W.heap.size W w':=by
 have HO:=One_any
 obtain ⟨K2,K3,K4,K5⟩:=And.intro whole_any (And.intro whole_any (And.intro whole_any whole_any))
 have k1:=fun o=>cell_al o k0
 have L0:=(Below.refl W.heap.size W).alloc Nat.le.refl (.cells #[.int .i64 0,.int .i64 0,.int .i64 0,.int .i64 0,.int .i64 0,.int .i64 0,.int .i64 0,.int .i64 0,.int .i64 0,.int .i64 0,.int .i64 0,.int .i64 0] 113)
 have B0:=Blk.new W #[.int .i64 0,.int .i64 0,.int .i64 0,.int .i64 0,.int .i64 0,.int .i64 0,.int .i64 0,.int .i64 0,.int .i64 0,.int .i64 0,.int .i64 0,.int .i64 0] 113
 go_enter Tryz.func269,Tryz.ntmps269
 go_wp2_with (first | (go_at_call 45;refine (HO _).mono ?_;clear HO;rintro e w1 ⟨rfl,hb1⟩;have L1:=L0.trans (hb1.mono (by simp));have sz1:=hb1.size;simp only [World.size_alloc] at sz1;have B1:=(B0.below hb1 Nat.le.refl).alloc (.cells #[.int .i64 1,.int .i64 1,.int .i64 0,.int .i64 1,.int .i64 0,.int .i64 1,.int .i64 1,.int .i64 1,.int .i64 0,.int .i64 1,.int .i64 0,.int .i64 1] 113);have M1:=Blk.new w1 #[.int .i64 1,.int .i64 1,.int .i64 0,.int .i64 1,.int .i64 0,.int .i64 1,.int .i64 1,.int .i64 1,.int .i64 0,.int .i64 1,.int .i64 0,.int .i64 1] 113;have A1:=L1.alloc (by omega) (.cells #[.int .i64 1,.int .i64 1,.int .i64 0,.int .i64 1,.int .i64 0,.int .i64 1,.int .i64 1,.int .i64 1,.int .i64 0,.int .i64 1,.int .i64 0,.int .i64 1] 113);have n1:¬ w1.heap.size=W.heap.size:=(by omega);have n2:¬ W.heap.size=w1.heap.size:=(by omega);dsimp only [Mv.one,Fr.whole]) | (go_at_call 86;refine (K2 _ _).mono ?_;clear K2;rintro e w2 ⟨rfl,hb2⟩;have B2:=B1.below hb2 Nat.le.refl;have M2:=M1.below hb2 Nat.le.refl;have A2:=A1.trans (hb2.mono A1.size)) | (go_at_call 86;refine (K3 _ _).mono ?_;clear K3;rintro e w3 ⟨rfl,hb3⟩;have B3:=B2.below hb3 Nat.le.refl;have M3:=M2.below hb3 Nat.le.refl;have A3:=A2.trans (hb3.mono A2.size)) | (go_at_call 86;refine (K4 _ _).mono ?_;clear K4;rintro e w4 ⟨rfl,hb4⟩;have B4:=B3.below hb4 Nat.le.refl;have M4:=M3.below hb4 Nat.le.refl;have A4:=A3.trans (hb4.mono A3.size)) | (go_at_call 86;refine (K5 _ _).mono ?_;clear K5;rintro e w5 ⟨rfl,hb5⟩;have B5:=B4.below hb5 Nat.le.refl;have M5:=M4.below hb5 Nat.le.refl;have A5:=A4.trans (hb5.mono A4.size);have zc0:=B5.cell 0 _ rfl;have zf0:=B5.froz 0 _ rfl;have mc0:=M5.cell 0 _ rfl;have mf0:=M5.froz 0 _ rfl;have zc1:=B5.cell 1 _ rfl;have zf1:=B5.froz 1 _ rfl;have mc1:=M5.cell 1 _ rfl;have mf1:=M5.froz 1 _ rfl;have zc2:=B5.cell 2 _ rfl;have zf2:=B5.froz 2 _ rfl;have mc2:=M5.cell 2 _ rfl;have mf2:=M5.froz 2 _ rfl;have zc3:=B5.cell 3 _ rfl;have zf3:=B5.froz 3 _ rfl;have mc3:=M5.cell 3 _ rfl;have mf3:=M5.froz 3 _ rfl;have zc4:=B5.cell 4 _ rfl;have zf4:=B5.froz 4 _ rfl;have mc4:=M5.cell 4 _ rfl;have mf4:=M5.froz 4 _ rfl;have zc5:=B5.cell 5 _ rfl;have zf5:=B5.froz 5 _ rfl;have mc5:=M5.cell 5 _ rfl;have mf5:=M5.froz 5 _ rfl;have zc6:=B5.cell 6 _ rfl;have zf6:=B5.froz 6 _ rfl;have mc6:=M5.cell 6 _ rfl;have mf6:=M5.froz 6 _ rfl;have zc7:=B5.cell 7 _ rfl;have zf7:=B5.froz 7 _ rfl;have mc7:=M5.cell 7 _ rfl;have mf7:=M5.froz 7 _ rfl;have zc8:=B5.cell 8 _ rfl;have zf8:=B5.froz 8 _ rfl;have mc8:=M5.cell 8 _ rfl;have mf8:=M5.froz 8 _ rfl;have zc9:=B5.cell 9 _ rfl;have zf9:=B5.froz 9 _ rfl;have mc9:=M5.cell 9 _ rfl;have mf9:=M5.froz 9 _ rfl;have zc10:=B5.cell 10 _ rfl;have zf10:=B5.froz 10 _ rfl;have mc10:=M5.cell 10 _ rfl;have mf10:=M5.froz 10 _ rfl;have zc11:=B5.cell 11 _ rfl;have zf11:=B5.froz 11 _ rfl;have mc11:=M5.cell 11 _ rfl;have mf11:=M5.froz 11 _ rfl))
 refine bodyPost_ret (v:=.tuple #[mv (Mv.turn 0 1),.nilIface]) (by simp [results,Tryz.results269,go_sem,Mv.turn,Fr.whole,zc0,zc1,zc2,zc3,zc4,zc5,zc6,zc7,zc8,zc9,zc10,zc11]) rfl ⟨rfl,?_⟩
 exact put_below (R:=W.heap.size) Nat.le.refl [.int .i64 0,.int .i64 1,.int .i64 1,.int .i64 1,.int .i64 (-1),.int .i64 1,.int .i64 0,.int .i64 1,.int .i64 0,.int .i64 1,.int .i64 0,.int .i64 1] 0 (put_below (R:=w1.heap.size) (by omega) [.int .i64 0,.int .i64 1,.int .i64 1,.int .i64 1,.int .i64 (-1),.int .i64 1,.int .i64 0,.int .i64 1] 0 A5)
theorem turn_2 (g o c:Nat) (W:World) (k0:W.cell? ⟨g,o,none⟩=some (.string ⟨#[50]⟩)) :
  Calls Tryz.prog 269 #[.slice (some ⟨g,o,none⟩) 1 c] W fun e w'=>e=.returned (.tuple #[mv (Mv.turn (-1) 0),.nilIface])/\Below W.heap.size W w':=by
 have HO:=One_any
 obtain ⟨K2,K3,K4,K5⟩:=And.intro whole_any (And.intro whole_any (And.intro whole_any whole_any))
 have k1:=fun o=>cell_al o k0
 have L0:=(Below.refl W.heap.size W).alloc Nat.le.refl (.cells #[.int .i64 0,.int .i64 0,.int .i64 0,.int .i64 0,.int .i64 0,.int .i64 0,.int .i64 0,.int .i64 0,.int .i64 0,.int .i64 0,.int .i64 0,.int .i64 0] 113)
 have B0:=Blk.new W #[.int .i64 0,.int .i64 0,.int .i64 0,.int .i64 0,.int .i64 0,.int .i64 0,.int .i64 0,.int .i64 0,.int .i64 0,.int .i64 0,.int .i64 0,.int .i64 0] 113
 go_enter Tryz.func269,Tryz.ntmps269
 go_wp2_with (first | (go_at_call 45;refine (HO _).mono ?_;clear HO;rintro e w1 ⟨rfl,hb1⟩;have L1:=L0.trans (hb1.mono (by simp));have sz1:=hb1.size;simp only [World.size_alloc] at sz1;have B1:=(B0.below hb1 Nat.le.refl).alloc (.cells #[.int .i64 1,.int .i64 1,.int .i64 0,.int .i64 1,.int .i64 0,.int .i64 1,.int .i64 1,.int .i64 1,.int .i64 0,.int .i64 1,.int .i64 0,.int .i64 1] 113);have M1:=Blk.new w1 #[.int .i64 1,.int .i64 1,.int .i64 0,.int .i64 1,.int .i64 0,.int .i64 1,.int .i64 1,.int .i64 1,.int .i64 0,.int .i64 1,.int .i64 0,.int .i64 1] 113;have A1:=L1.alloc (by omega) (.cells #[.int .i64 1,.int .i64 1,.int .i64 0,.int .i64 1,.int .i64 0,.int .i64 1,.int .i64 1,.int .i64 1,.int .i64 0,.int .i64 1,.int .i64 0,.int .i64 1] 113);have n1:¬ w1.heap.size=W.heap.size:=(by omega);have n2:¬ W.heap.size=w1.heap.size:=(by omega);dsimp only [Mv.one,Fr.whole]) | (go_at_call 86;refine (K2 _ _).mono ?_;clear K2;rintro e w2 ⟨rfl,hb2⟩;have B2:=B1.below hb2 Nat.le.refl;have M2:=M1.below hb2 Nat.le.refl;have A2:=A1.trans (hb2.mono A1.size)) | (go_at_call 86;refine (K3 _ _).mono ?_;clear K3;rintro e w3 ⟨rfl,hb3⟩;have B3:=B2.below hb3 Nat.le.refl;have M3:=M2.below hb3 Nat.le.refl;have A3:=A2.trans (hb3.mono A2.size)) | (go_at_call 86;refine (K4 _ _).mono ?_;clear K4;rintro e w4 ⟨rfl,hb4⟩;have B4:=B3.below hb4 Nat.le.refl;have M4:=M3.below hb4 Nat.le.refl;have A4:=A3.trans (hb4.mono A3.size)) | (go_at_call 86;refine (K5 _ _).mono ?_;clear K5;rintro e w5 ⟨rfl,hb5⟩;have B5:=B4.below hb5 Nat.le.refl;have M5:=M4.below hb5 Nat.le.refl;have A5:=A4.trans (hb5.mono A4.size);have zc0:=B5.cell 0 _ rfl;have zf0:=B5.froz 0 _ rfl;have mc0:=M5.cell 0 _ rfl;have mf0:=M5.froz 0 _ rfl;have zc1:=B5.cell 1 _ rfl;have zf1:=B5.froz 1 _ rfl;have mc1:=M5.cell 1 _ rfl;have mf1:=M5.froz 1 _ rfl;have zc2:=B5.cell 2 _ rfl;have zf2:=B5.froz 2 _ rfl;have mc2:=M5.cell 2 _ rfl;have mf2:=M5.froz 2 _ rfl;have zc3:=B5.cell 3 _ rfl;have zf3:=B5.froz 3 _ rfl;have mc3:=M5.cell 3 _ rfl;have mf3:=M5.froz 3 _ rfl;have zc4:=B5.cell 4 _ rfl;have zf4:=B5.froz 4 _ rfl;have mc4:=M5.cell 4 _ rfl;have mf4:=M5.froz 4 _ rfl;have zc5:=B5.cell 5 _ rfl;have zf5:=B5.froz 5 _ rfl;have mc5:=M5.cell 5 _ rfl;have mf5:=M5.froz 5 _ rfl;have zc6:=B5.cell 6 _ rfl;have zf6:=B5.froz 6 _ rfl;have mc6:=M5.cell 6 _ rfl;have mf6:=M5.froz 6 _ rfl;have zc7:=B5.cell 7 _ rfl;have zf7:=B5.froz 7 _ rfl;have mc7:=M5.cell 7 _ rfl;have mf7:=M5.froz 7 _ rfl;have zc8:=B5.cell 8 _ rfl;have zf8:=B5.froz 8 _ rfl;have mc8:=M5.cell 8 _ rfl;have mf8:=M5.froz 8 _ rfl;have zc9:=B5.cell 9 _ rfl;have zf9:=B5.froz 9 _ rfl;have mc9:=M5.cell 9 _ rfl;have mf9:=M5.froz 9 _ rfl;have zc10:=B5.cell 10 _ rfl;have zf10:=B5.froz 10 _ rfl;have mc10:=M5.cell 10 _ rfl;have mf10:=M5.froz 10 _ rfl;have zc11:=B5.cell 11 _ rfl;have zf11:=B5.froz 11 _ rfl;have mc11:=M5.cell 11 _ rfl;have mf11:=M5.froz 11 _ rfl))
 refine bodyPost_ret (v:=.tuple #[mv (Mv.turn (-1) 0),.nilIface]) (by simp [results,Tryz.results269,go_sem,Mv.turn,Fr.whole,zc0,zc1,zc2,zc3,zc4,zc5,zc6,zc7,zc8,zc9,zc10,zc11]) rfl ⟨rfl,?_⟩
 exact put_below (R:=W.heap.size) Nat.le.refl [.int .i64 (-1),.int .i64 1,.int .i64 0,.int .i64 1,.int .i64 0,.int .i64 1,.int .i64 (-1),.int .i64 1,.int .i64 0,.int .i64 1,.int .i64 0,.int .i64 1] 0 (put_below (R:=w1.heap.size) (by omega) [.int .i64 (-1),.int .i64 1,.int .i64 0,.int .i64 1,.int .i64 0,.int .i64 1,.int .i64 (-1),.int .i64 1] 0 A5)
theorem turn_3 (g o c:Nat) (W:World) (k0:W.cell? ⟨g,o,none⟩=some (.string ⟨#[51]⟩)) :
  Calls Tryz.prog 269 #[.slice (some ⟨g,o,none⟩) 1 c] W fun e w'=>e=.returned (.tuple #[mv (Mv.turn 0 (-1)),.nilIface])/\Below W.heap.size W w':=by
 have HO:=One_any
 obtain ⟨K2,K3,K4,K5⟩:=And.intro whole_any (And.intro whole_any (And.intro whole_any whole_any))
 have k1:=fun o=>cell_al o k0
 have L0:=(Below.refl W.heap.size W).alloc Nat.le.refl (.cells #[.int .i64 0,.int .i64 0,.int .i64 0,.int .i64 0,.int .i64 0,.int .i64 0,.int .i64 0,.int .i64 0,.int .i64 0,.int .i64 0,.int .i64 0,.int .i64 0] 113)
 have B0:=Blk.new W #[.int .i64 0,.int .i64 0,.int .i64 0,.int .i64 0,.int .i64 0,.int .i64 0,.int .i64 0,.int .i64 0,.int .i64 0,.int .i64 0,.int .i64 0,.int .i64 0] 113
 go_enter Tryz.func269,Tryz.ntmps269
 go_wp2_with (first | (go_at_call 45;refine (HO _).mono ?_;clear HO;rintro e w1 ⟨rfl,hb1⟩;have L1:=L0.trans (hb1.mono (by simp));have sz1:=hb1.size;simp only [World.size_alloc] at sz1;have B1:=(B0.below hb1 Nat.le.refl).alloc (.cells #[.int .i64 1,.int .i64 1,.int .i64 0,.int .i64 1,.int .i64 0,.int .i64 1,.int .i64 1,.int .i64 1,.int .i64 0,.int .i64 1,.int .i64 0,.int .i64 1] 113);have M1:=Blk.new w1 #[.int .i64 1,.int .i64 1,.int .i64 0,.int .i64 1,.int .i64 0,.int .i64 1,.int .i64 1,.int .i64 1,.int .i64 0,.int .i64 1,.int .i64 0,.int .i64 1] 113;have A1:=L1.alloc (by omega) (.cells #[.int .i64 1,.int .i64 1,.int .i64 0,.int .i64 1,.int .i64 0,.int .i64 1,.int .i64 1,.int .i64 1,.int .i64 0,.int .i64 1,.int .i64 0,.int .i64 1] 113);have n1:¬ w1.heap.size=W.heap.size:=(by omega);have n2:¬ W.heap.size=w1.heap.size:=(by omega);dsimp only [Mv.one,Fr.whole]) | (go_at_call 86;refine (K2 _ _).mono ?_;clear K2;rintro e w2 ⟨rfl,hb2⟩;have B2:=B1.below hb2 Nat.le.refl;have M2:=M1.below hb2 Nat.le.refl;have A2:=A1.trans (hb2.mono A1.size)) | (go_at_call 86;refine (K3 _ _).mono ?_;clear K3;rintro e w3 ⟨rfl,hb3⟩;have B3:=B2.below hb3 Nat.le.refl;have M3:=M2.below hb3 Nat.le.refl;have A3:=A2.trans (hb3.mono A2.size)) | (go_at_call 86;refine (K4 _ _).mono ?_;clear K4;rintro e w4 ⟨rfl,hb4⟩;have B4:=B3.below hb4 Nat.le.refl;have M4:=M3.below hb4 Nat.le.refl;have A4:=A3.trans (hb4.mono A3.size)) | (go_at_call 86;refine (K5 _ _).mono ?_;clear K5;rintro e w5 ⟨rfl,hb5⟩;have B5:=B4.below hb5 Nat.le.refl;have M5:=M4.below hb5 Nat.le.refl;have A5:=A4.trans (hb5.mono A4.size);have zc0:=B5.cell 0 _ rfl;have zf0:=B5.froz 0 _ rfl;have mc0:=M5.cell 0 _ rfl;have mf0:=M5.froz 0 _ rfl;have zc1:=B5.cell 1 _ rfl;have zf1:=B5.froz 1 _ rfl;have mc1:=M5.cell 1 _ rfl;have mf1:=M5.froz 1 _ rfl;have zc2:=B5.cell 2 _ rfl;have zf2:=B5.froz 2 _ rfl;have mc2:=M5.cell 2 _ rfl;have mf2:=M5.froz 2 _ rfl;have zc3:=B5.cell 3 _ rfl;have zf3:=B5.froz 3 _ rfl;have mc3:=M5.cell 3 _ rfl;have mf3:=M5.froz 3 _ rfl;have zc4:=B5.cell 4 _ rfl;have zf4:=B5.froz 4 _ rfl;have mc4:=M5.cell 4 _ rfl;have mf4:=M5.froz 4 _ rfl;have zc5:=B5.cell 5 _ rfl;have zf5:=B5.froz 5 _ rfl;have mc5:=M5.cell 5 _ rfl;have mf5:=M5.froz 5 _ rfl;have zc6:=B5.cell 6 _ rfl;have zf6:=B5.froz 6 _ rfl;have mc6:=M5.cell 6 _ rfl;have mf6:=M5.froz 6 _ rfl;have zc7:=B5.cell 7 _ rfl;have zf7:=B5.froz 7 _ rfl;have mc7:=M5.cell 7 _ rfl;have mf7:=M5.froz 7 _ rfl;have zc8:=B5.cell 8 _ rfl;have zf8:=B5.froz 8 _ rfl;have mc8:=M5.cell 8 _ rfl;have mf8:=M5.froz 8 _ rfl;have zc9:=B5.cell 9 _ rfl;have zf9:=B5.froz 9 _ rfl;have mc9:=M5.cell 9 _ rfl;have mf9:=M5.froz 9 _ rfl;have zc10:=B5.cell 10 _ rfl;have zf10:=B5.froz 10 _ rfl;have mc10:=M5.cell 10 _ rfl;have mf10:=M5.froz 10 _ rfl;have zc11:=B5.cell 11 _ rfl;have zf11:=B5.froz 11 _ rfl;have mc11:=M5.cell 11 _ rfl;have mf11:=M5.froz 11 _ rfl))
 refine bodyPost_ret (v:=.tuple #[mv (Mv.turn 0 (-1)),.nilIface]) (by simp [results,Tryz.results269,go_sem,Mv.turn,Fr.whole,zc0,zc1,zc2,zc3,zc4,zc5,zc6,zc7,zc8,zc9,zc10,zc11]) rfl ⟨rfl,?_⟩
 exact put_below (R:=W.heap.size) Nat.le.refl [.int .i64 0,.int .i64 1,.int .i64 (-1),.int .i64 1,.int .i64 1,.int .i64 1,.int .i64 0,.int .i64 1,.int .i64 0,.int .i64 1,.int .i64 0,.int .i64 1] 0 (put_below (R:=w1.heap.size) (by omega) [.int .i64 0,.int .i64 1,.int .i64 (-1),.int .i64 1,.int .i64 1,.int .i64 1,.int .i64 0,.int .i64 1] 0 A5)
theorem ne_str {k:ByteArray} {l:List UInt8} (h:k≠⟨l.toArray⟩):(k.toList==l)=false:=by
 rw [ByteArray.toList_eq,beq_eq_false_iff_ne]
 intro e
 exact h (ext_list (by rw [e]))
theorem run_store_nilFunc' (P:Program) (w:World) (a:Addr) (m:Mode):(store a .nilFunc m).run P w=stored P w a .nilFunc m:=run_store P w a _ m rfl
attribute [local go_sem] run_store_nilFunc'
theorem kindOf_none (k:ByteArray) (W:World) (h0:k≠bMove) (h1:k≠bScale) (h2:k≠bTurn) (h3:k≠bSkew) :
  Calls Tryz.prog 221 #[.string k] W fun e w'=>e=.returned (.tuple #[.agg #[.int .i64 0,.nilFunc],.bool false])/\Below W.heap.size W w':=by
 have e0:=ne_str (l:=[109,111,118,101]) h0
 have e1:=ne_str (l:=[115,99,97,108,101]) h1
 have e2:=ne_str (l:=[116,117,114,110]) h2
 have e3:=ne_str (l:=[115,107,101,119]) h3
 go_enter Tryz.func221,Tryz.ntmps221
 go_wp2
 refine bodyPost_ret (v:=.tuple #[.agg #[.int .i64 0,.nilFunc],.bool false]) (by simp [results,Tryz.results221,go_sem]) rfl ⟨rfl,?_⟩
 exact (Below.refl _ W).alloc Nat.le.refl _
end
section
open Go.RowKit
set_option maxHeartbeats 16000000
set_option maxRecDepth 20000
attribute [local go_sem] run_store_func_m
def Kd.f:Kd->Nat
 | .move=>267
 | .scale=>268
 | .turn=>269
 | .skew=>270
theorem Kd.n_pos (kd:Kd):1<=kd.n/\kd.n<=2:=by cases kd <;> exact ⟨by decide,by decide⟩
def lenOf:Value->Nat
 | .slice _ n _=>n
 | _=>0
abbrev cells1 (m:Mv):List Value:=[Value.int .i64 m.a.n,.int .i64 m.a.d,.int .i64 m.b.n,.int .i64 m.b.d,.int .i64 m.c.n,.int .i64 m.c.d,.int .i64 m.d.n,.int .i64 m.d.d,.int .i64 m.e.n,.int .i64 m.e.d,.int .i64 m.f.n,.int .i64 m.f.d]
def cellsM (l:List Mv):List Value:=l.flatMap cells1
theorem cellsM_snoc (l:List Mv) (m:Mv):cellsM (l++[m])=cellsM l++cells1 m:=by simp [cellsM]
theorem own_hi {w:World} {base:Nat} {e:TypeId} {size n:Nat} {v:Value} {xs:List Value} (h:w.ownsRow base e size v n xs):∀ k,v.ownBlock=some k->k<w.heap.size:=by
 obtain ⟨_,h2⟩:=h
 rcases h2 with ⟨rfl,_⟩ | ⟨g,cap,cur,rfl,_,h5,_⟩
 ·intro k hk;cases hk
 ·intro k hk;simp only [Value.ownBlock] at hk;cases hk;exact (Array.getElem?_eq_some_iff.1 h5).1
theorem Blk.drew {w:World} {R:Nat} {cs:Array Value} {t:TypeId} (h:Blk w R cs t):Blk w.drew R cs t:=⟨h.h⟩
theorem drop_cons {ws:List ByteArray} {j N r:Nat} (h:ws.length=N) (hj:j+(r+1)=N):∃ k,ws[j]? = some k/\ws.drop j=k :: ws.drop (j+1):=by
 have hlt:j<ws.length:=by omega
 exact ⟨ws[j],by simp [hlt],List.drop_eq_getElem_cons hlt⟩
theorem words_at {w:World} {b j:Nat} {ws:List ByteArray} {t:TypeId} {k:ByteArray} (h:Blk w b (ws.map Value.string).toArray t) (hk:ws[j]? = some k):w.cell? ⟨b,j,none⟩=some (.string k):=h.cell j _ (by simp [hk])
theorem readL_step {f:Nat} {k:ByteArray} {ws:List ByteArray} {acc R:List Mv} (h:readL f (k :: ws) acc=(R,0)) :
  ∃ f' kd m,f=f'+1/\kdOf k=some kd/\kd.n<=ws.length/\kdR kd ws=(m,0)/\readL f' (ws.drop kd.n) (acc++[m])=(R,0):=by
 cases f with
 | zero=>cases h
 | succ f=>
  unfold readL at h
  cases hk:kdOf k with
  | none=>rw [hk] at h;cases h
  | some kd=>
   rw [hk] at h;simp only at h
   by_cases hl:ws.length<kd.n
   ·rw [if_pos hl] at h;cases h
   ·rw [if_neg hl] at h
    by_cases hc:(kdR kd ws).2=0
    ·rw [if_pos hc] at h;exact ⟨f,kd,_,rfl,rfl,by omega,Prod.ext rfl hc,h⟩
    ·rw [if_neg hc] at h;exact (hc (congrArg Prod.snd h)).elim
def KindA (k:ByteArray) (kd:Kd):Prop:=∀ V,Calls Tryz.prog 221 #[.string k] V fun e w'=>(∃ B,V.heap.size<=B/\e=.returned (.tuple #[.agg #[.int .i64 kd.n,.func (.func 301) #[] #[.pointer (some ⟨B,0,none⟩)]],.bool true])/\w'.cell? ⟨B,0,none⟩=some (.func (.func kd.f) #[] #[]))/\Below V.heap.size V w'
def ReadA (W:World) (ws:List ByteArray) (kd:Kd):Prop:=∀ V o B cap m,Below W.heap.size W V->Blk V W.heap.size (ws.map Value.string).toArray 9->V.cell? ⟨B,0,none⟩=some (.func (.func kd.f) #[] #[])->o+kd.n<=ws.length->kdR kd (ws.drop o)=(m,0)->
 Calls Tryz.prog 301 #[.slice (some ⟨W.heap.size,o,none⟩) kd.n cap,.pointer (some ⟨B,0,none⟩)] V fun e w'=>e=.returned (.tuple #[mv m,.nilIface])/\Below V.heap.size V w'
def ReadT (W:World) (ws:List ByteArray):Prop:=∀ V o cap m,Below W.heap.size W V->Blk V W.heap.size (ws.map Value.string).toArray 9->o+1<=ws.length->kdR .turn (ws.drop o)=(m,0)->
 Calls Tryz.prog 269 #[.slice (some ⟨W.heap.size,o,none⟩) 1 cap] V fun e w'=>e=.returned (.tuple #[mv m,.nilIface])/\Below V.heap.size V w'
theorem readList_ok (s:ByteArray) (ws:List ByteArray) (N:Nat) (R:List Mv) (W:World) (hs:s.size<4294967281) (hne:s.toList.isEmpty=false) (hN:Lib.countB s ⟨#[32]⟩+1=N) (hw:Lib.splitB ⟨#[32]⟩ 0 (Lib.countB s ⟨#[32]⟩) s=ws) (hlen:ws.length=N) (hN':N<=1000)
  (hR:readL N ws []=(R,0)) (KA:∀ k kd,kdOf k=some kd->kd≠.turn->KindA k kd) (KT:∀ k,kdOf k=some .turn->k=bTurn) (RA:∀ kd,kd≠.turn->ReadA W ws kd) (RT:ReadT W ws) :
  Calls Tryz.prog 172 #[.string s] W fun e w'=>(∃ v,e=.returned (.tuple #[v,.nilIface])/\w'.ownsRow (W.heap.size+1) 113 12 v R.length (cellsM R))/\Below W.heap.size W w':=by
 have HS:=split_any s hs W
 rw [hw,hN] at HS
 clear hs
 obtain ⟨i0,hi,hz0,hz1,hz2⟩:=info_parts infoMove
 go_enter Tryz.func172,Tryz.ntmps172
 go_wp2_with (go_at_call 217;refine HS.mono ?_;rintro e w' ⟨rfl,rfl⟩)
 go_loopw [4,5] (fun lv wv wr=>∃ (j r f:Nat) (acc:List Mv),j+r=N/\acc.length<=j/\(∃ a,wv=.slice a r r/\(r≠0->a=some ⟨W.heap.size,j,none⟩))/\wr.ownsRow (W.heap.size+1) 113 12 lv acc.length (cellsM acc)/\Blk wr W.heap.size (ws.map Value.string).toArray 9/\Below W.heap.size W wr/\readL f (ws.drop j) acc=(R,0)) (fun _ wv _=>lenOf wv)
 case atStart=>exact ⟨0,N,N,[],by omega,by simp,⟨_,rfl,fun _=>rfl⟩,World.ownsRow_nil _ _ _ _,Blk.new W _ _,(Below.refl _ W).alloc Nat.le.refl _,hR⟩
 case round=>
  obtain ⟨j,r,f,acc,hjr,haj,⟨ad,rfl,had⟩,hown,hblk,hlow,hRf⟩:=hrel
  cases r with
  | zero=>
   have hd:ws.drop j=[]:=List.drop_eq_nil_of_le (by omega)
   rw [hd] at hRf
   have hacc:acc=R:=by cases f <;> exact congrArg Prod.fst hRf
   clear hRf
   subst hacc
   go_wp2
   go_ret2
   exact ⟨⟨_,rfl,hown⟩,hlow⟩
  | succ r=>
   obtain rfl:=had (by omega)
   clear had
   obtain ⟨k,hk,hd⟩:=drop_cons hlen hjr
   rw [hd] at hRf
   obtain ⟨f',kd,m,hff,hkd,hnl,hkr,hRg⟩:=readL_step hRf
   clear hRf hff
   have c0:=words_at hblk hk
   rw [List.length_drop] at hnl
   clear hd
   by_cases ht:kd=.turn
   ·subst ht
    have hkt:=KT k hkd
    subst hkt
    have hRT:=RT
    unfold ReadT at hRT
    rw [show Kd.turn.n=1 from rfl] at hnl hRg
    have hnr:1<=r:=by omega
    have hnr':(1:Int)<=(r:Int):=by omega
    go_wp2_with (go_at_call 221;refine (kindOf_turn _).mono ?_;rintro e w1 ⟨rfl,hb1⟩;have L1:=hlow.trans (hb1.mono hlow.size);have B1:=hblk.below hb1 Nat.le.refl;have O1:=ownsRow_below hown hb1)
    have K2:=Blk.new w1 #[.int .i64 1,.func (.func 269) #[] #[]] 305
    have L2:=L1.alloc L1.size (.cells #[.int .i64 1,.func (.func 269) #[] #[]] 305)
    have B2:=B1.alloc (.cells #[.int .i64 1,.func (.func 269) #[] #[]] 305)
    have O2:=O1.alloc (.cells #[.int .i64 1,.func (.func 269) #[] #[]] 305)
    have q1:=hb1.size
    obtain ⟨V,hV⟩:∃ V,w1.alloc (.cells #[.int .i64 1,.func (.func 269) #[] #[]] 305)=V:=⟨_,rfl⟩
    have hVs:w1.heap.size<V.heap.size:=by rw [<- hV];simp
    rw [hV] at K2 L2 B2 O2 ⊢
    clear hV L1 B1 O1 hb1
    have hlt:=K2.lt
    have hOh:=own_hi hown
    have hOl:=own_lo hown
    have L3:=L2.alloc L2.size (.cells #[.int .i64 0,.int .i64 0,.int .i64 0,.int .i64 0,.int .i64 0,.int .i64 0,.int .i64 0,.int .i64 0,.int .i64 0,.int .i64 0,.int .i64 0,.int .i64 0] 113)
    have L2d:Below W.heap.size W V.drew:=below_drewN L2 1
    have L3d:Below W.heap.size W (V.alloc (.cells #[.int .i64 0,.int .i64 0,.int .i64 0,.int .i64 0,.int .i64 0,.int .i64 0,.int .i64 0,.int .i64 0,.int .i64 0,.int .i64 0,.int .i64 0,.int .i64 0] 113)).drew:=below_drewN L3 1
    have B2d:=B2.drew
    have B3d:=(B2.alloc (.cells #[.int .i64 0,.int .i64 0,.int .i64 0,.int .i64 0,.int .i64 0,.int .i64 0,.int .i64 0,.int .i64 0,.int .i64 0,.int .i64 0,.int .i64 0,.int .i64 0] 113)).drew
    have HZ:∀ u,Below (V.alloc (.cells #[.int .i64 0,.int .i64 0,.int .i64 0,.int .i64 0,.int .i64 0,.int .i64 0,.int .i64 0,.int .i64 0,.int .i64 0,.int .i64 0,.int .i64 0,.int .i64 0] 113)).drew.heap.size (V.alloc (.cells #[.int .i64 0,.int .i64 0,.int .i64 0,.int .i64 0,.int .i64 0,.int .i64 0,.int .i64 0,.int .i64 0,.int .i64 0,.int .i64 0,.int .i64 0,.int .i64 0] 113)).drew u->Blk u V.heap.size #[.int .i64 0,.int .i64 0,.int .i64 0,.int .i64 0,.int .i64 0,.int .i64 0,.int .i64 0,.int .i64 0,.int .i64 0,.int .i64 0,.int .i64 0,.int .i64 0] 113:=fun u h=>blk_after h
    have k0:=K2.cell 0 _ rfl
    have k1:=K2.cell 1 _ rfl
    have k0d:V.drew.cell? ⟨w1.heap.size,0,none⟩=some (.int .i64 1):=k0
    have k1d:V.drew.cell? ⟨w1.heap.size,1,none⟩=some (.func (.func 269) #[] #[]):=k1
    have k0e:(V.alloc (.cells #[.int .i64 0,.int .i64 0,.int .i64 0,.int .i64 0,.int .i64 0,.int .i64 0,.int .i64 0,.int .i64 0,.int .i64 0,.int .i64 0,.int .i64 0,.int .i64 0] 113)).drew.cell? ⟨w1.heap.size,0,none⟩=some (.int .i64 1):=cell_al _ k0
    have k1e:(V.alloc (.cells #[.int .i64 0,.int .i64 0,.int .i64 0,.int .i64 0,.int .i64 0,.int .i64 0,.int .i64 0,.int .i64 0,.int .i64 0,.int .i64 0,.int .i64 0,.int .i64 0] 113)).drew.cell? ⟨w1.heap.size,1,none⟩=some (.func (.func 269) #[] #[]):=cell_al _ k1
    have nv:w1.heap.size≠V.heap.size:=by omega
    have nv':¬ V.heap.size=w1.heap.size:=by omega
    have hle:j+1+1<=ws.length:=by omega
    go_cut [8,9] from 14 to 56 (fun p v wx=>v=.nilIface/\∃ R,p=.pointer (some ⟨R,0,none⟩)/\V.heap.size<=R/\(∀ j u,[.int .i64 m.a.n,.int .i64 m.a.d,.int .i64 m.b.n,.int .i64 m.b.d,.int .i64 m.c.n,.int .i64 m.c.d,.int .i64 m.d.n,.int .i64 m.d.d,.int .i64 m.e.n,.int .i64 m.e.d,.int .i64 m.f.n,.int .i64 m.f.d][j]? = some u->wx.cell? ⟨R,j,none⟩=some u)/\Below V.heap.size V wx)
    case first=>
     go_region_held3 (fun w'=>w'.cell? ⟨w1.heap.size,0,none⟩=some (.int .i64 1)/\w'.cell? ⟨w1.heap.size,1,none⟩=some (.func (.func 269) #[] #[])) (refine ⟨?_,?_⟩ <;> (repeat rw [World.cell?_setCell_far _ _ _ _ nv']) <;> assumption) ((go_at_call 269;refine (hRT _ (j+1) _ m ?_ ?_ hle hkr).mono ?_;(first | exact L2d | exact L3d);(first | exact B2d | exact B3d);rintro e w3 ⟨rfl,hb3⟩;have hz3:=hb3.size;have hs3:=keep_b hb3 (by assumption);obtain ⟨j0,j1⟩:=hs3;have y0:=fun o=>cell_al o j0;have y1:=fun o=>cell_al o j1;have y2:=cell_al (.cells #[.int .i64 m.a.n,.int .i64 m.a.d,.int .i64 m.b.n,.int .i64 m.b.d,.int .i64 m.c.n,.int .i64 m.c.d,.int .i64 m.d.n,.int .i64 m.d.d,.int .i64 m.e.n,.int .i64 m.e.d,.int .i64 m.f.n,.int .i64 m.f.d] 113) j0;have y3:=cell_al (.cells #[.int .i64 m.a.n,.int .i64 m.a.d,.int .i64 m.b.n,.int .i64 m.b.d,.int .i64 m.c.n,.int .i64 m.c.d,.int .i64 m.d.n,.int .i64 m.d.d,.int .i64 m.e.n,.int .i64 m.e.d,.int .i64 m.f.n,.int .i64 m.f.d] 113) j1;have y4:=cell_al (.cells #[.int .i64 0,.int .i64 0,.int .i64 0,.int .i64 0,.int .i64 0,.int .i64 0,.int .i64 0,.int .i64 0,.int .i64 0,.int .i64 0,.int .i64 0,.int .i64 0] 113) j0;have y5:=cell_al (.cells #[.int .i64 0,.int .i64 0,.int .i64 0,.int .i64 0,.int .i64 0,.int .i64 0,.int .i64 0,.int .i64 0,.int .i64 0,.int .i64 0,.int .i64 0,.int .i64 0] 113) j1;(first | (have BZ:=HZ _ hb3;have zc0:=BZ.cell 0 _ rfl;have zf0:=BZ.froz 0 _ rfl;have zc1:=BZ.cell 1 _ rfl;have zf1:=BZ.froz 1 _ rfl;have zc2:=BZ.cell 2 _ rfl;have zf2:=BZ.froz 2 _ rfl;have zc3:=BZ.cell 3 _ rfl;have zf3:=BZ.froz 3 _ rfl;have zc4:=BZ.cell 4 _ rfl;have zf4:=BZ.froz 4 _ rfl;have zc5:=BZ.cell 5 _ rfl;have zf5:=BZ.froz 5 _ rfl;have zc6:=BZ.cell 6 _ rfl;have zf6:=BZ.froz 6 _ rfl;have zc7:=BZ.cell 7 _ rfl;have zf7:=BZ.froz 7 _ rfl;have zc8:=BZ.cell 8 _ rfl;have zf8:=BZ.froz 8 _ rfl;have zc9:=BZ.cell 9 _ rfl;have zf9:=BZ.froz 9 _ rfl;have zc10:=BZ.cell 10 _ rfl;have zf10:=BZ.froz 10 _ rfl;have zc11:=BZ.cell 11 _ rfl;have zf11:=BZ.froz 11 _ rfl) | skip)))
     ·go_wp2_with fail
      go_meet
      exact ⟨rfl,w3.heap.size,rfl,hz3,list_at (cs:=[.int .i64 m.a.n,.int .i64 m.a.d,.int .i64 m.b.n,.int .i64 m.b.d,.int .i64 m.c.n,.int .i64 m.c.d,.int .i64 m.d.n,.int .i64 m.d.d,.int .i64 m.e.n,.int .i64 m.e.d,.int .i64 m.f.n,.int .i64 m.f.d]),(undrew hb3).alloc hz3 _⟩
     ·go_wp2_with fail
      go_meet
      have hb4:Below V.heap.size V w3:=((Below.refl V.heap.size V).alloc Nat.le.refl (.cells #[.int .i64 0,.int .i64 0,.int .i64 0,.int .i64 0,.int .i64 0,.int .i64 0,.int .i64 0,.int .i64 0,.int .i64 0,.int .i64 0,.int .i64 0,.int .i64 0] 113)).trans ((undrew hb3).mono (by simp))
      have hat:=put_at (R:=V.heap.size) [.int .i64 m.a.n,.int .i64 m.a.d,.int .i64 m.b.n,.int .i64 m.b.d,.int .i64 m.c.n,.int .i64 m.c.d,.int .i64 m.d.n,.int .i64 m.d.d,.int .i64 m.e.n,.int .i64 m.e.d,.int .i64 m.f.n,.int .i64 m.f.d] 0 w3 (fun i hi=>blk_some BZ i hi)
      simp only [Nat.zero_add] at hat
      exact ⟨rfl,V.heap.size,rfl,Nat.le_refl _,hat,put_below (R:=V.heap.size) Nat.le.refl [.int .i64 m.a.n,.int .i64 m.a.d,.int .i64 m.b.n,.int .i64 m.b.d,.int .i64 m.c.n,.int .i64 m.c.d,.int .i64 m.d.n,.int .i64 m.d.d,.int .i64 m.e.n,.int .i64 m.e.d,.int .i64 m.f.n,.int .i64 m.f.d] 0 hb4⟩
    case rest=>
     obtain ⟨rfl,R',rfl,hR',hcells,hbV⟩:=hcut
     have KC:=K2.below hbV Nat.le.refl
     have kk:=KC.cell 0 _ rfl
     have LC:=L2.trans (hbV.mono L2.size)
     have BC:=B2.below hbV Nat.le.refl
     have OC:=((ownsRow_below O2 hbV).alloc (.cells #[.int .i64 m.a.n,.int .i64 m.a.d,.int .i64 m.b.n,.int .i64 m.b.d,.int .i64 m.c.n,.int .i64 m.c.d,.int .i64 m.d.n,.int .i64 m.d.d,.int .i64 m.e.n,.int .i64 m.e.d,.int .i64 m.f.n,.int .i64 m.f.d] 113))
     have OCd:(wc.alloc (.cells #[.int .i64 m.a.n,.int .i64 m.a.d,.int .i64 m.b.n,.int .i64 m.b.d,.int .i64 m.c.n,.int .i64 m.c.d,.int .i64 m.d.n,.int .i64 m.d.d,.int .i64 m.e.n,.int .i64 m.e.d,.int .i64 m.f.n,.int .i64 m.f.d] 113)).drew.ownsRow (W.heap.size+1) 113 12 u4 acc.length (cellsM acc):=OC
     obtain ⟨m0,m1,m2,m3,m4,m5,m6,m7,m8,m9,m10,m11⟩:=And.intro (hcells 0 _ rfl) (And.intro (hcells 1 _ rfl) (And.intro (hcells 2 _ rfl) (And.intro (hcells 3 _ rfl) (And.intro (hcells 4 _ rfl) (And.intro (hcells 5 _ rfl) (And.intro (hcells 6 _ rfl) (And.intro (hcells 7 _ rfl) (And.intro (hcells 8 _ rfl) (And.intro (hcells 9 _ rfl) (And.intro (hcells 10 _ rfl) (hcells 11 _ rfl)))))))))))
     have szC:=hbV.size
     clear hcells k0 k1 k0d k1d k0e k1e HZ L2d L3d L3 B2d B3d OC
     have H0:=World.alloc_heap_new wc (.cells #[.int .i64 m.a.n,.int .i64 m.a.d,.int .i64 m.b.n,.int .i64 m.b.d,.int .i64 m.c.n,.int .i64 m.c.d,.int .i64 m.d.n,.int .i64 m.d.d,.int .i64 m.e.n,.int .i64 m.e.d,.int .i64 m.f.n,.int .i64 m.f.d] 113)
     go_wp2_with fail
     go_region_held3 (fun w'=>w'.cell? ⟨R',0,none⟩=some (.int .i64 m.a.n)/\w'.cell? ⟨R',1,none⟩=some (.int .i64 m.a.d)/\w'.cell? ⟨R',2,none⟩=some (.int .i64 m.b.n)/\w'.cell? ⟨R',3,none⟩=some (.int .i64 m.b.d)/\w'.cell? ⟨R',4,none⟩=some (.int .i64 m.c.n)/\w'.cell? ⟨R',5,none⟩=some (.int .i64 m.c.d)/\w'.cell? ⟨R',6,none⟩=some (.int .i64 m.d.n)/\w'.cell? ⟨R',7,none⟩=some (.int .i64 m.d.d)/\w'.cell? ⟨R',8,none⟩=some (.int .i64 m.e.n)/\w'.cell? ⟨R',9,none⟩=some (.int .i64 m.e.d)/\w'.cell? ⟨R',10,none⟩=some (.int .i64 m.f.n)/\w'.cell? ⟨R',11,none⟩=some (.int .i64 m.f.d)/\w'.cell? ⟨w1.heap.size,0,none⟩=some (.int .i64 1)) (refine ⟨?_,?_,?_,?_,?_,?_,?_,?_,?_,?_,?_,?_,?_⟩ <;> first | assumption | exact cell_al _ (by assumption) | exact hA _ _ (by assumption) (by simp only;omega)) ((refine step_append_lies _ rfl (.tmp 49) (.tmp 51) 247 rfl (W.heap.size+1) 113 i0 (.agg #[.int .i64 0,.int .i64 0,.int .i64 0,.int .i64 0,.int .i64 0,.int .i64 0,.int .i64 0,.int .i64 0,.int .i64 0,.int .i64 0,.int .i64 0,.int .i64 0]) 12 96 Tryz.underlying247 hi hz0 hz1 hz2 rfl (by decide) u4 acc.length (cellsM acc) rfl OCd ⟨wc.heap.size,0,none⟩ 1 1 [.int .i64 m.a.n,.int .i64 m.a.d,.int .i64 m.b.n,.int .i64 m.b.d,.int .i64 m.c.n,.int .i64 m.c.d,.int .i64 m.d.n,.int .i64 m.d.d,.int .i64 m.e.n,.int .i64 m.e.d,.int .i64 m.f.n,.int .i64 m.f.d] rfl rfl (World.news_of_block (w:=(wc.alloc (.cells #[.int .i64 m.a.n,.int .i64 m.a.d,.int .i64 m.b.n,.int .i64 m.b.d,.int .i64 m.c.n,.int .i64 m.c.d,.int .i64 m.d.n,.int .i64 m.d.d,.int .i64 m.e.n,.int .i64 m.e.d,.int .i64 m.f.n,.int .i64 m.f.d] 113)).drew) (cs:=#[.int .i64 m.a.n,.int .i64 m.a.d,.int .i64 m.b.n,.int .i64 m.b.d,.int .i64 m.c.n,.int .i64 m.c.d,.int .i64 m.d.n,.int .i64 m.d.d,.int .i64 m.e.n,.int .i64 m.e.d,.int .i64 m.f.n,.int .i64 m.f.d]) H0) one12 (by decide) (by unfold maxLen;omega) (by omega) (by have:=LC.size;simp;omega) _ rfl ?_;intro g cap w5 hown5 hgrow hat hlt5;have hgr:World.grownBy (wc.alloc (.cells #[.int .i64 m.a.n,.int .i64 m.a.d,.int .i64 m.b.n,.int .i64 m.b.d,.int .i64 m.c.n,.int .i64 m.c.d,.int .i64 m.d.n,.int .i64 m.d.d,.int .i64 m.e.n,.int .i64 m.e.d,.int .i64 m.f.n,.int .i64 m.f.d] 113)).drew w5 u4.ownBlock:=hgrow;have hA:∀ p v,wc.cell? p=some v->(p.block=W.heap.size\/w1.heap.size<=p.block)->w5.cell? p=some v:=(fun p v h hp=>(hgr.cell_far p (by have:=cell_lt h;simp;omega) (fun e=>by have:=hOh _ e.symm;have:=hOl _ e.symm;have:=q1;omega)).trans (cell_al (W:=wc) _ h))))
     go_wp2_with fail
     rw [List.drop_drop] at hRg
     refine ⟨⟨j+1+1,r - 1,f',acc++[m],by omega,by simp;omega,⟨_,rfl,fun h=>by rw [if_neg (by omega)]⟩,by rw [List.length_append,cellsM_snoc];exact hown5,((BC.alloc (.cells #[.int .i64 m.a.n,.int .i64 m.a.d,.int .i64 m.b.n,.int .i64 m.b.d,.int .i64 m.c.n,.int .i64 m.c.d,.int .i64 m.d.n,.int .i64 m.d.d,.int .i64 m.e.n,.int .i64 m.e.d,.int .i64 m.f.n,.int .i64 m.f.d] 113)).drew).grown hgr (fun e=>by have:=hOl _ e;omega),(below_drewN (LC.alloc LC.size (.cells #[.int .i64 m.a.n,.int .i64 m.a.d,.int .i64 m.b.n,.int .i64 m.b.d,.int .i64 m.c.n,.int .i64 m.c.d,.int .i64 m.d.n,.int .i64 m.d.d,.int .i64 m.e.n,.int .i64 m.e.d,.int .i64 m.f.n,.int .i64 m.f.d] 113)) 1).grown hgr (by have:=LC.size;simp;omega) (fun k e=>by have:=hOl k e;omega),hRg⟩,by simp only [lenOf];omega⟩
   ·have hKA:=KA k kd hkd ht
    have hRA:=RA kd ht
    unfold KindA at hKA
    unfold ReadA at hRA
    obtain ⟨hn1,hn2⟩:=kd.n_pos
    generalize kd.n=n at *
    have hnr:n<=r:=by omega
    have hnr':(n:Int)<=(r:Int):=by omega
    have hn0:(0:Int)<=(n:Int):=by omega
    go_wp2_with (go_at_call 221;refine (hKA _).mono ?_;rintro e w1 ⟨⟨B,hB,rfl,hBc⟩,hb1⟩;have L1:=hlow.trans (hb1.mono hlow.size);have B1:=hblk.below hb1 Nat.le.refl;have O1:=ownsRow_below hown hb1)
    have C2:=cell_al (.cells #[.int .i64 n,.func (.func 301) #[] #[.pointer (some ⟨B,0,none⟩)]] 305) hBc
    have K2:=Blk.new w1 #[.int .i64 n,.func (.func 301) #[] #[.pointer (some ⟨B,0,none⟩)]] 305
    have L2:=L1.alloc L1.size (.cells #[.int .i64 n,.func (.func 301) #[] #[.pointer (some ⟨B,0,none⟩)]] 305)
    have B2:=B1.alloc (.cells #[.int .i64 n,.func (.func 301) #[] #[.pointer (some ⟨B,0,none⟩)]] 305)
    have O2:=O1.alloc (.cells #[.int .i64 n,.func (.func 301) #[] #[.pointer (some ⟨B,0,none⟩)]] 305)
    have q1:=hb1.size
    obtain ⟨V,hV⟩:∃ V,w1.alloc (.cells #[.int .i64 n,.func (.func 301) #[] #[.pointer (some ⟨B,0,none⟩)]] 305)=V:=⟨_,rfl⟩
    have hVs:w1.heap.size<V.heap.size:=by rw [<- hV];simp
    rw [hV] at K2 L2 B2 O2 C2 ⊢
    clear hV L1 B1 O1 hb1 hBc
    have hlt:=K2.lt
    have hOh:=own_hi hown
    have hOl:=own_lo hown
    have L3:=L2.alloc L2.size (.cells #[.int .i64 0,.int .i64 0,.int .i64 0,.int .i64 0,.int .i64 0,.int .i64 0,.int .i64 0,.int .i64 0,.int .i64 0,.int .i64 0,.int .i64 0,.int .i64 0] 113)
    have L2d:Below W.heap.size W V.drew:=below_drewN L2 1
    have L3d:Below W.heap.size W (V.alloc (.cells #[.int .i64 0,.int .i64 0,.int .i64 0,.int .i64 0,.int .i64 0,.int .i64 0,.int .i64 0,.int .i64 0,.int .i64 0,.int .i64 0,.int .i64 0,.int .i64 0] 113)).drew:=below_drewN L3 1
    have B2d:=B2.drew
    have B3d:=(B2.alloc (.cells #[.int .i64 0,.int .i64 0,.int .i64 0,.int .i64 0,.int .i64 0,.int .i64 0,.int .i64 0,.int .i64 0,.int .i64 0,.int .i64 0,.int .i64 0,.int .i64 0] 113)).drew
    have C2d:V.drew.cell? ⟨B,0,none⟩=some (.func (.func kd.f) #[] #[]):=C2
    have C3d:(V.alloc (.cells #[.int .i64 0,.int .i64 0,.int .i64 0,.int .i64 0,.int .i64 0,.int .i64 0,.int .i64 0,.int .i64 0,.int .i64 0,.int .i64 0,.int .i64 0,.int .i64 0] 113)).drew.cell? ⟨B,0,none⟩=some (.func (.func kd.f) #[] #[]):=cell_al _ C2
    have HZ:∀ u,Below (V.alloc (.cells #[.int .i64 0,.int .i64 0,.int .i64 0,.int .i64 0,.int .i64 0,.int .i64 0,.int .i64 0,.int .i64 0,.int .i64 0,.int .i64 0,.int .i64 0,.int .i64 0] 113)).drew.heap.size (V.alloc (.cells #[.int .i64 0,.int .i64 0,.int .i64 0,.int .i64 0,.int .i64 0,.int .i64 0,.int .i64 0,.int .i64 0,.int .i64 0,.int .i64 0,.int .i64 0,.int .i64 0] 113)).drew u->Blk u V.heap.size #[.int .i64 0,.int .i64 0,.int .i64 0,.int .i64 0,.int .i64 0,.int .i64 0,.int .i64 0,.int .i64 0,.int .i64 0,.int .i64 0,.int .i64 0,.int .i64 0] 113:=fun u h=>blk_after h
    have k0:=K2.cell 0 _ rfl
    have k1:=K2.cell 1 _ rfl
    have k0d:V.drew.cell? ⟨w1.heap.size,0,none⟩=some (.int .i64 n):=k0
    have k1d:V.drew.cell? ⟨w1.heap.size,1,none⟩=some (.func (.func 301) #[] #[.pointer (some ⟨B,0,none⟩)]):=k1
    have k0e:(V.alloc (.cells #[.int .i64 0,.int .i64 0,.int .i64 0,.int .i64 0,.int .i64 0,.int .i64 0,.int .i64 0,.int .i64 0,.int .i64 0,.int .i64 0,.int .i64 0,.int .i64 0] 113)).drew.cell? ⟨w1.heap.size,0,none⟩=some (.int .i64 n):=cell_al _ k0
    have k1e:(V.alloc (.cells #[.int .i64 0,.int .i64 0,.int .i64 0,.int .i64 0,.int .i64 0,.int .i64 0,.int .i64 0,.int .i64 0,.int .i64 0,.int .i64 0,.int .i64 0,.int .i64 0] 113)).drew.cell? ⟨w1.heap.size,1,none⟩=some (.func (.func 301) #[] #[.pointer (some ⟨B,0,none⟩)]):=cell_al _ k1
    have nv:w1.heap.size≠V.heap.size:=by omega
    have nv':¬ V.heap.size=w1.heap.size:=by omega
    have hle:j+1+n<=ws.length:=by omega
    go_cut [8,9] from 14 to 56 (fun p v wx=>v=.nilIface/\∃ R,p=.pointer (some ⟨R,0,none⟩)/\V.heap.size<=R/\(∀ j u,[.int .i64 m.a.n,.int .i64 m.a.d,.int .i64 m.b.n,.int .i64 m.b.d,.int .i64 m.c.n,.int .i64 m.c.d,.int .i64 m.d.n,.int .i64 m.d.d,.int .i64 m.e.n,.int .i64 m.e.d,.int .i64 m.f.n,.int .i64 m.f.d][j]? = some u->wx.cell? ⟨R,j,none⟩=some u)/\Below V.heap.size V wx)
    case first=>
     go_region_held3 (fun w'=>w'.cell? ⟨w1.heap.size,0,none⟩=some (.int .i64 n)/\w'.cell? ⟨w1.heap.size,1,none⟩=some (.func (.func 301) #[] #[.pointer (some ⟨B,0,none⟩)])) (refine ⟨?_,?_⟩ <;> (repeat rw [World.cell?_setCell_far _ _ _ _ nv']) <;> assumption) ((go_at_call 301;refine (hRA _ (j+1) B _ m ?_ ?_ ?_ hle hkr).mono ?_;(first | exact L2d | exact L3d);(first | exact B2d | exact B3d);(first | exact C2d | exact C3d);rintro e w3 ⟨rfl,hb3⟩;have hz3:=hb3.size;have hs3:=keep_b hb3 (by assumption);obtain ⟨j0,j1⟩:=hs3;have y0:=fun o=>cell_al o j0;have y1:=fun o=>cell_al o j1;have y2:=cell_al (.cells #[.int .i64 m.a.n,.int .i64 m.a.d,.int .i64 m.b.n,.int .i64 m.b.d,.int .i64 m.c.n,.int .i64 m.c.d,.int .i64 m.d.n,.int .i64 m.d.d,.int .i64 m.e.n,.int .i64 m.e.d,.int .i64 m.f.n,.int .i64 m.f.d] 113) j0;have y3:=cell_al (.cells #[.int .i64 m.a.n,.int .i64 m.a.d,.int .i64 m.b.n,.int .i64 m.b.d,.int .i64 m.c.n,.int .i64 m.c.d,.int .i64 m.d.n,.int .i64 m.d.d,.int .i64 m.e.n,.int .i64 m.e.d,.int .i64 m.f.n,.int .i64 m.f.d] 113) j1;have y4:=cell_al (.cells #[.int .i64 0,.int .i64 0,.int .i64 0,.int .i64 0,.int .i64 0,.int .i64 0,.int .i64 0,.int .i64 0,.int .i64 0,.int .i64 0,.int .i64 0,.int .i64 0] 113) j0;have y5:=cell_al (.cells #[.int .i64 0,.int .i64 0,.int .i64 0,.int .i64 0,.int .i64 0,.int .i64 0,.int .i64 0,.int .i64 0,.int .i64 0,.int .i64 0,.int .i64 0,.int .i64 0] 113) j1;(first | (have BZ:=HZ _ hb3;have zc0:=BZ.cell 0 _ rfl;have zf0:=BZ.froz 0 _ rfl;have zc1:=BZ.cell 1 _ rfl;have zf1:=BZ.froz 1 _ rfl;have zc2:=BZ.cell 2 _ rfl;have zf2:=BZ.froz 2 _ rfl;have zc3:=BZ.cell 3 _ rfl;have zf3:=BZ.froz 3 _ rfl;have zc4:=BZ.cell 4 _ rfl;have zf4:=BZ.froz 4 _ rfl;have zc5:=BZ.cell 5 _ rfl;have zf5:=BZ.froz 5 _ rfl;have zc6:=BZ.cell 6 _ rfl;have zf6:=BZ.froz 6 _ rfl;have zc7:=BZ.cell 7 _ rfl;have zf7:=BZ.froz 7 _ rfl;have zc8:=BZ.cell 8 _ rfl;have zf8:=BZ.froz 8 _ rfl;have zc9:=BZ.cell 9 _ rfl;have zf9:=BZ.froz 9 _ rfl;have zc10:=BZ.cell 10 _ rfl;have zf10:=BZ.froz 10 _ rfl;have zc11:=BZ.cell 11 _ rfl;have zf11:=BZ.froz 11 _ rfl) | skip)))
     ·go_wp2_with fail
      go_meet
      exact ⟨rfl,w3.heap.size,rfl,hz3,list_at (cs:=[.int .i64 m.a.n,.int .i64 m.a.d,.int .i64 m.b.n,.int .i64 m.b.d,.int .i64 m.c.n,.int .i64 m.c.d,.int .i64 m.d.n,.int .i64 m.d.d,.int .i64 m.e.n,.int .i64 m.e.d,.int .i64 m.f.n,.int .i64 m.f.d]),(undrew hb3).alloc hz3 _⟩
     ·go_wp2_with fail
      go_meet
      have hb4:Below V.heap.size V w3:=((Below.refl V.heap.size V).alloc Nat.le.refl (.cells #[.int .i64 0,.int .i64 0,.int .i64 0,.int .i64 0,.int .i64 0,.int .i64 0,.int .i64 0,.int .i64 0,.int .i64 0,.int .i64 0,.int .i64 0,.int .i64 0] 113)).trans ((undrew hb3).mono (by simp))
      have hat:=put_at (R:=V.heap.size) [.int .i64 m.a.n,.int .i64 m.a.d,.int .i64 m.b.n,.int .i64 m.b.d,.int .i64 m.c.n,.int .i64 m.c.d,.int .i64 m.d.n,.int .i64 m.d.d,.int .i64 m.e.n,.int .i64 m.e.d,.int .i64 m.f.n,.int .i64 m.f.d] 0 w3 (fun i hi=>blk_some BZ i hi)
      simp only [Nat.zero_add] at hat
      exact ⟨rfl,V.heap.size,rfl,Nat.le_refl _,hat,put_below (R:=V.heap.size) Nat.le.refl [.int .i64 m.a.n,.int .i64 m.a.d,.int .i64 m.b.n,.int .i64 m.b.d,.int .i64 m.c.n,.int .i64 m.c.d,.int .i64 m.d.n,.int .i64 m.d.d,.int .i64 m.e.n,.int .i64 m.e.d,.int .i64 m.f.n,.int .i64 m.f.d] 0 hb4⟩
    case rest=>
     obtain ⟨rfl,R',rfl,hR',hcells,hbV⟩:=hcut
     have KC:=K2.below hbV Nat.le.refl
     have kk:=KC.cell 0 _ rfl
     have LC:=L2.trans (hbV.mono L2.size)
     have BC:=B2.below hbV Nat.le.refl
     have OC:=((ownsRow_below O2 hbV).alloc (.cells #[.int .i64 m.a.n,.int .i64 m.a.d,.int .i64 m.b.n,.int .i64 m.b.d,.int .i64 m.c.n,.int .i64 m.c.d,.int .i64 m.d.n,.int .i64 m.d.d,.int .i64 m.e.n,.int .i64 m.e.d,.int .i64 m.f.n,.int .i64 m.f.d] 113))
     have OCd:(wc.alloc (.cells #[.int .i64 m.a.n,.int .i64 m.a.d,.int .i64 m.b.n,.int .i64 m.b.d,.int .i64 m.c.n,.int .i64 m.c.d,.int .i64 m.d.n,.int .i64 m.d.d,.int .i64 m.e.n,.int .i64 m.e.d,.int .i64 m.f.n,.int .i64 m.f.d] 113)).drew.ownsRow (W.heap.size+1) 113 12 u4 acc.length (cellsM acc):=OC
     obtain ⟨m0,m1,m2,m3,m4,m5,m6,m7,m8,m9,m10,m11⟩:=And.intro (hcells 0 _ rfl) (And.intro (hcells 1 _ rfl) (And.intro (hcells 2 _ rfl) (And.intro (hcells 3 _ rfl) (And.intro (hcells 4 _ rfl) (And.intro (hcells 5 _ rfl) (And.intro (hcells 6 _ rfl) (And.intro (hcells 7 _ rfl) (And.intro (hcells 8 _ rfl) (And.intro (hcells 9 _ rfl) (And.intro (hcells 10 _ rfl) (hcells 11 _ rfl)))))))))))
     have szC:=hbV.size
     clear hcells k0 k1 k0d k1d k0e k1e HZ L2d L3d L3 B2d B3d OC
     have H0:=World.alloc_heap_new wc (.cells #[.int .i64 m.a.n,.int .i64 m.a.d,.int .i64 m.b.n,.int .i64 m.b.d,.int .i64 m.c.n,.int .i64 m.c.d,.int .i64 m.d.n,.int .i64 m.d.d,.int .i64 m.e.n,.int .i64 m.e.d,.int .i64 m.f.n,.int .i64 m.f.d] 113)
     go_wp2_with fail
     go_region_held3 (fun w'=>w'.cell? ⟨R',0,none⟩=some (.int .i64 m.a.n)/\w'.cell? ⟨R',1,none⟩=some (.int .i64 m.a.d)/\w'.cell? ⟨R',2,none⟩=some (.int .i64 m.b.n)/\w'.cell? ⟨R',3,none⟩=some (.int .i64 m.b.d)/\w'.cell? ⟨R',4,none⟩=some (.int .i64 m.c.n)/\w'.cell? ⟨R',5,none⟩=some (.int .i64 m.c.d)/\w'.cell? ⟨R',6,none⟩=some (.int .i64 m.d.n)/\w'.cell? ⟨R',7,none⟩=some (.int .i64 m.d.d)/\w'.cell? ⟨R',8,none⟩=some (.int .i64 m.e.n)/\w'.cell? ⟨R',9,none⟩=some (.int .i64 m.e.d)/\w'.cell? ⟨R',10,none⟩=some (.int .i64 m.f.n)/\w'.cell? ⟨R',11,none⟩=some (.int .i64 m.f.d)/\w'.cell? ⟨w1.heap.size,0,none⟩=some (.int .i64 n)) (refine ⟨?_,?_,?_,?_,?_,?_,?_,?_,?_,?_,?_,?_,?_⟩ <;> first | assumption | exact cell_al _ (by assumption) | exact hA _ _ (by assumption) (by simp only;omega)) ((refine step_append_lies _ rfl (.tmp 49) (.tmp 51) 247 rfl (W.heap.size+1) 113 i0 (.agg #[.int .i64 0,.int .i64 0,.int .i64 0,.int .i64 0,.int .i64 0,.int .i64 0,.int .i64 0,.int .i64 0,.int .i64 0,.int .i64 0,.int .i64 0,.int .i64 0]) 12 96 Tryz.underlying247 hi hz0 hz1 hz2 rfl (by decide) u4 acc.length (cellsM acc) rfl OCd ⟨wc.heap.size,0,none⟩ 1 1 [.int .i64 m.a.n,.int .i64 m.a.d,.int .i64 m.b.n,.int .i64 m.b.d,.int .i64 m.c.n,.int .i64 m.c.d,.int .i64 m.d.n,.int .i64 m.d.d,.int .i64 m.e.n,.int .i64 m.e.d,.int .i64 m.f.n,.int .i64 m.f.d] rfl rfl (World.news_of_block (w:=(wc.alloc (.cells #[.int .i64 m.a.n,.int .i64 m.a.d,.int .i64 m.b.n,.int .i64 m.b.d,.int .i64 m.c.n,.int .i64 m.c.d,.int .i64 m.d.n,.int .i64 m.d.d,.int .i64 m.e.n,.int .i64 m.e.d,.int .i64 m.f.n,.int .i64 m.f.d] 113)).drew) (cs:=#[.int .i64 m.a.n,.int .i64 m.a.d,.int .i64 m.b.n,.int .i64 m.b.d,.int .i64 m.c.n,.int .i64 m.c.d,.int .i64 m.d.n,.int .i64 m.d.d,.int .i64 m.e.n,.int .i64 m.e.d,.int .i64 m.f.n,.int .i64 m.f.d]) H0) one12 (by decide) (by unfold maxLen;omega) (by omega) (by have:=LC.size;simp;omega) _ rfl ?_;intro g cap w5 hown5 hgrow hat hlt5;have hgr:World.grownBy (wc.alloc (.cells #[.int .i64 m.a.n,.int .i64 m.a.d,.int .i64 m.b.n,.int .i64 m.b.d,.int .i64 m.c.n,.int .i64 m.c.d,.int .i64 m.d.n,.int .i64 m.d.d,.int .i64 m.e.n,.int .i64 m.e.d,.int .i64 m.f.n,.int .i64 m.f.d] 113)).drew w5 u4.ownBlock:=hgrow;have hA:∀ p v,wc.cell? p=some v->(p.block=W.heap.size\/w1.heap.size<=p.block)->w5.cell? p=some v:=(fun p v h hp=>(hgr.cell_far p (by have:=cell_lt h;simp;omega) (fun e=>by have:=hOh _ e.symm;have:=hOl _ e.symm;have:=q1;omega)).trans (cell_al (W:=wc) _ h))))
     go_wp2_with fail
     rw [List.drop_drop] at hRg
     refine ⟨⟨j+1+n,r - n,f',acc++[m],by omega,by simp;omega,⟨_,rfl,fun h=>by rw [if_neg (by omega)]⟩,by rw [List.length_append,cellsM_snoc];exact hown5,((BC.alloc (.cells #[.int .i64 m.a.n,.int .i64 m.a.d,.int .i64 m.b.n,.int .i64 m.b.d,.int .i64 m.c.n,.int .i64 m.c.d,.int .i64 m.d.n,.int .i64 m.d.d,.int .i64 m.e.n,.int .i64 m.e.d,.int .i64 m.f.n,.int .i64 m.f.d] 113)).drew).grown hgr (fun e=>by have:=hOl _ e;omega),(below_drewN (LC.alloc LC.size (.cells #[.int .i64 m.a.n,.int .i64 m.a.d,.int .i64 m.b.n,.int .i64 m.b.d,.int .i64 m.c.n,.int .i64 m.c.d,.int .i64 m.d.n,.int .i64 m.d.d,.int .i64 m.e.n,.int .i64 m.e.d,.int .i64 m.f.n,.int .i64 m.f.d] 113)) 1).grown hgr (by have:=LC.size;simp;omega) (fun k e=>by have:=hOl k e;omega),hRg⟩,by simp only [lenOf];omega⟩
end
end Go.Proofs.YtgphclgmmocdhaaGreatDoor

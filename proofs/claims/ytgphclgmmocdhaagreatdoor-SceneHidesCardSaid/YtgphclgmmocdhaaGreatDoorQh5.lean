/-
  Parts of the proof.
-/
import Derived.Test.YtgphclgmmocdhaaGreatDoorQh4
namespace Go.Proofs.YtgphclgmmocdhaaGreatDoor
section
open Go.RowKit
set_option maxHeartbeats 8000000
theorem checkP_any (aB aS aZ:Addr) (p:Pt) (hi:p.i64) (W:World) (hE:E3 aB aS aZ W) :
  Calls Tryz.prog 223 #[.func (.func 291) #[] #[.pointer (some ⟨W.heap.size+1+1,0,none⟩),.pointer (some ⟨W.heap.size+1,0,none⟩)]] (((W.alloc (.cells #[.int .i64 p.x.n,.int .i64 p.x.d,.int .i64 p.y.n,.int .i64 p.y.d] 52)).alloc (.cells #[.int .i64 6] 3)).alloc (.cells #[.slice (some ⟨W.heap.size,0,none⟩) 2 2] 297)) fun e w'=>(∃ v,e=.returned v/\Told aB aS aZ W.heap.size (firstBad 6 p.list) v w')/\Below W.heap.size W w':=by
 have hr:=rows_two p hi W 52 3 297
 have hz:(((W.alloc (.cells #[.int .i64 p.x.n,.int .i64 p.x.d,.int .i64 p.y.n,.int .i64 p.y.d] 52)).alloc (.cells #[.int .i64 6] 3)).alloc (.cells #[.slice (some ⟨W.heap.size,0,none⟩) 2 2] 297)).heap.size=W.heap.size+3:=by simp
 have hb:Below W.heap.size W (((W.alloc (.cells #[.int .i64 p.x.n,.int .i64 p.x.d,.int .i64 p.y.n,.int .i64 p.y.d] 52)).alloc (.cells #[.int .i64 6] 3)).alloc (.cells #[.slice (some ⟨W.heap.size,0,none⟩) 2 2] 297)):=(((Below.refl _ W).alloc Nat.le.refl _).alloc (by simp) _).alloc (by simp;omega) _
 rw [<- hz] at hr
 refine (checkAll_told aB aS aZ _ _ _ _ _ _ _ hr (hE.below hb Nat.le.refl)).mono ?_
 rintro e w' ⟨⟨v,he,ht⟩,hb'⟩
 exact ⟨⟨v,he,ht.mono (by omega)⟩,hb.trans (hb'.mono (by omega))⟩
def FineP (aB aS aZ:Addr) (p:Pt):Prop:=∀ W,E3 aB aS aZ W->Calls Tryz.prog 223 #[.func (.func 291) #[] #[.pointer (some ⟨W.heap.size+1+1,0,none⟩),.pointer (some ⟨W.heap.size+1,0,none⟩)]] (((W.alloc (.cells #[.int .i64 p.x.n,.int .i64 p.x.d,.int .i64 p.y.n,.int .i64 p.y.d] 52)).alloc (.cells #[.int .i64 6] 3)).alloc (.cells #[.slice (some ⟨W.heap.size,0,none⟩) 2 2] 297)) fun e w'=>e=.returned .nilIface/\Below W.heap.size W w'
def BadP (aB aS aZ:Addr) (p:Pt) (r:Nat × Nat):Prop:=∀ W,E3 aB aS aZ W->Calls Tryz.prog 223 #[.func (.func 291) #[] #[.pointer (some ⟨W.heap.size+1+1,0,none⟩),.pointer (some ⟨W.heap.size+1,0,none⟩)]] (((W.alloc (.cells #[.int .i64 p.x.n,.int .i64 p.x.d,.int .i64 p.y.n,.int .i64 p.y.d] 52)).alloc (.cells #[.int .i64 6] 3)).alloc (.cells #[.slice (some ⟨W.heap.size,0,none⟩) 2 2] 297)) fun e w'=>(∃ pb,W.heap.size<=pb/\e=.returned (.iface 143 (.pointer (some ⟨pb,0,none⟩)))/\w'.cell? ⟨pb,0,none⟩=some (.int .i64 r.2)/\w'.cell? ⟨pb,1,none⟩=some (er aB aS aZ r.1))/\Below W.heap.size W w'
theorem fineP {aB aS aZ:Addr} {p:Pt} (hi:p.i64) (h:(firstBad 6 p.list).1=0):FineP aB aS aZ p:=fun W hE=>(checkP_any aB aS aZ p hi W hE).mono fun e w' ⟨⟨v,he,ht⟩,hb⟩=>by
 rcases ht with ht | ht
 ·exact ⟨by rw [he,ht.2],hb⟩
 ·exact (ht.1 h).elim
theorem badP {aB aS aZ:Addr} {p:Pt} (hi:p.i64) (h:(firstBad 6 p.list).1≠0):BadP aB aS aZ p (firstBad 6 p.list):=fun W hE=>(checkP_any aB aS aZ p hi W hE).mono fun e w' ⟨⟨v,he,ht⟩,hb⟩=>by
 rcases ht with ht | ⟨_,_,pb,h1,h2,h3,h4⟩
 ·exact (h ht.1).elim
 ·exact ⟨⟨pb,h1,by rw [he,h2],h3,h4⟩,hb⟩
theorem at_badm (aB aS aZ:Addr) (m:Mv) (p:Pt) (r:Nat × Nat) (W:World) (hE:E3 aB aS aZ W) (HC:BadC aB aS aZ m r) :
  Calls Tryz.prog 210 #[mv m,pv p] W fun e w'=>(∃ pb,W.heap.size<=pb/\e=.returned (.tuple #[pv .zero,.iface 143 (.pointer (some ⟨pb,0,none⟩))])/\w'.cell? ⟨pb,0,none⟩=some (.int .i64 r.2)/\w'.cell? ⟨pb,1,none⟩=some (er aB aS aZ r.1))/\Below W.heap.size W w':=by
 have hF:∃ V,(((W.alloc (.cells #[.int .i64 m.a.n,.int .i64 m.a.d,.int .i64 m.b.n,.int .i64 m.b.d,.int .i64 m.c.n,.int .i64 m.c.d,.int .i64 m.d.n,.int .i64 m.d.d,.int .i64 m.e.n,.int .i64 m.e.d,.int .i64 m.f.n,.int .i64 m.f.d] 113)).alloc (.cells #[.int .i64 p.x.n,.int .i64 p.x.d,.int .i64 p.y.n,.int .i64 p.y.d] 121)).alloc (.cells #[.int .i64 0,.int .i64 0,.int .i64 0,.int .i64 0] 121))=V/\Blk V (W.heap.size+1+1) #[.int .i64 0,.int .i64 0,.int .i64 0,.int .i64 0] 121/\Blk V (W.heap.size+1) #[.int .i64 p.x.n,.int .i64 p.x.d,.int .i64 p.y.n,.int .i64 p.y.d] 121/\Blk V W.heap.size #[.int .i64 m.a.n,.int .i64 m.a.d,.int .i64 m.b.n,.int .i64 m.b.d,.int .i64 m.c.n,.int .i64 m.c.d,.int .i64 m.d.n,.int .i64 m.d.d,.int .i64 m.e.n,.int .i64 m.e.d,.int .i64 m.f.n,.int .i64 m.f.d] 113/\Below W.heap.size W V/\V.heap.size=W.heap.size+3:=⟨_,rfl,by simpa using Blk.new ((W.alloc (.cells #[.int .i64 m.a.n,.int .i64 m.a.d,.int .i64 m.b.n,.int .i64 m.b.d,.int .i64 m.c.n,.int .i64 m.c.d,.int .i64 m.d.n,.int .i64 m.d.d,.int .i64 m.e.n,.int .i64 m.e.d,.int .i64 m.f.n,.int .i64 m.f.d] 113)).alloc (.cells #[.int .i64 p.x.n,.int .i64 p.x.d,.int .i64 p.y.n,.int .i64 p.y.d] 121)) #[.int .i64 0,.int .i64 0,.int .i64 0,.int .i64 0] 121,(by simpa using Blk.new (W.alloc (.cells #[.int .i64 m.a.n,.int .i64 m.a.d,.int .i64 m.b.n,.int .i64 m.b.d,.int .i64 m.c.n,.int .i64 m.c.d,.int .i64 m.d.n,.int .i64 m.d.d,.int .i64 m.e.n,.int .i64 m.e.d,.int .i64 m.f.n,.int .i64 m.f.d] 113)) #[.int .i64 p.x.n,.int .i64 p.x.d,.int .i64 p.y.n,.int .i64 p.y.d] 121:Blk _ _ _ _).alloc _,((Blk.new W #[.int .i64 m.a.n,.int .i64 m.a.d,.int .i64 m.b.n,.int .i64 m.b.d,.int .i64 m.c.n,.int .i64 m.c.d,.int .i64 m.d.n,.int .i64 m.d.d,.int .i64 m.e.n,.int .i64 m.e.d,.int .i64 m.f.n,.int .i64 m.f.d] 113).alloc _).alloc _,(((Below.refl _ W).alloc Nat.le.refl _).alloc (by simp) _).alloc (by simp;omega) _,by simp⟩
 go_enter Tryz.func210,Tryz.ntmps210
 go_wp2_with (go_at_call 174;obtain ⟨V,hV,hB,BP,BM,hb,hz⟩:=hF;refine (HC _ (hV ▸ hE.below hb Nat.le.refl)).mono ?_;rw [hV];rintro e w1 ⟨⟨pb,hp,rfl,p0,p1⟩,hb1⟩;have hB1:=hB.below hb1 Nat.le.refl;have zc0:=hB1.cell 0 _ rfl;have zf0:=hB1.froz 0 _ rfl;have zc1:=hB1.cell 1 _ rfl;have zf1:=hB1.froz 1 _ rfl;have zc2:=hB1.cell 2 _ rfl;have zf2:=hB1.froz 2 _ rfl;have zc3:=hB1.cell 3 _ rfl;have zf3:=hB1.froz 3 _ rfl)
 have hz1:=hb1.size
 refine bodyPost_ret (v:=.tuple #[pv .zero,.iface 143 (.pointer (some ⟨pb,0,none⟩))]) (by simp [results,Tryz.results210,go_sem,Pt.zero,Fr.zero,zc0,zc1,zc2,zc3]) rfl ⟨⟨pb,by omega,rfl,?_,?_⟩,?_⟩
 ·exact (put_cell (p:=⟨pb,0,none⟩) (R:=W.heap.size+1+1) (by simp only;omega) [.int .i64 0,.int .i64 0,.int .i64 0,.int .i64 0] 0 w1).trans p0
 ·exact (put_cell (p:=⟨pb,1,none⟩) (R:=W.heap.size+1+1) (by simp only;omega) [.int .i64 0,.int .i64 0,.int .i64 0,.int .i64 0] 0 w1).trans p1
 ·exact put_below (R:=W.heap.size+1+1) (by omega) [.int .i64 0,.int .i64 0,.int .i64 0,.int .i64 0] 0 (hb.trans (hb1.mono (by omega)))
theorem at_badp (aB aS aZ:Addr) (m:Mv) (p:Pt) (r:Nat × Nat) (W:World) (hE:E3 aB aS aZ W) (HFM:FineC aB aS aZ m) (HP:BadP aB aS aZ p r) :
  Calls Tryz.prog 210 #[mv m,pv p] W fun e w'=>(∃ pb,W.heap.size<=pb/\e=.returned (.tuple #[pv .zero,.iface 143 (.pointer (some ⟨pb,0,none⟩))])/\w'.cell? ⟨pb,0,none⟩=some (.int .i64 r.2)/\w'.cell? ⟨pb,1,none⟩=some (er aB aS aZ r.1))/\Below W.heap.size W w':=by
 have hF:∃ V,(((W.alloc (.cells #[.int .i64 m.a.n,.int .i64 m.a.d,.int .i64 m.b.n,.int .i64 m.b.d,.int .i64 m.c.n,.int .i64 m.c.d,.int .i64 m.d.n,.int .i64 m.d.d,.int .i64 m.e.n,.int .i64 m.e.d,.int .i64 m.f.n,.int .i64 m.f.d] 113)).alloc (.cells #[.int .i64 p.x.n,.int .i64 p.x.d,.int .i64 p.y.n,.int .i64 p.y.d] 121)).alloc (.cells #[.int .i64 0,.int .i64 0,.int .i64 0,.int .i64 0] 121))=V/\Blk V (W.heap.size+1+1) #[.int .i64 0,.int .i64 0,.int .i64 0,.int .i64 0] 121/\Blk V (W.heap.size+1) #[.int .i64 p.x.n,.int .i64 p.x.d,.int .i64 p.y.n,.int .i64 p.y.d] 121/\Blk V W.heap.size #[.int .i64 m.a.n,.int .i64 m.a.d,.int .i64 m.b.n,.int .i64 m.b.d,.int .i64 m.c.n,.int .i64 m.c.d,.int .i64 m.d.n,.int .i64 m.d.d,.int .i64 m.e.n,.int .i64 m.e.d,.int .i64 m.f.n,.int .i64 m.f.d] 113/\Below W.heap.size W V/\V.heap.size=W.heap.size+3:=⟨_,rfl,by simpa using Blk.new ((W.alloc (.cells #[.int .i64 m.a.n,.int .i64 m.a.d,.int .i64 m.b.n,.int .i64 m.b.d,.int .i64 m.c.n,.int .i64 m.c.d,.int .i64 m.d.n,.int .i64 m.d.d,.int .i64 m.e.n,.int .i64 m.e.d,.int .i64 m.f.n,.int .i64 m.f.d] 113)).alloc (.cells #[.int .i64 p.x.n,.int .i64 p.x.d,.int .i64 p.y.n,.int .i64 p.y.d] 121)) #[.int .i64 0,.int .i64 0,.int .i64 0,.int .i64 0] 121,(by simpa using Blk.new (W.alloc (.cells #[.int .i64 m.a.n,.int .i64 m.a.d,.int .i64 m.b.n,.int .i64 m.b.d,.int .i64 m.c.n,.int .i64 m.c.d,.int .i64 m.d.n,.int .i64 m.d.d,.int .i64 m.e.n,.int .i64 m.e.d,.int .i64 m.f.n,.int .i64 m.f.d] 113)) #[.int .i64 p.x.n,.int .i64 p.x.d,.int .i64 p.y.n,.int .i64 p.y.d] 121:Blk _ _ _ _).alloc _,((Blk.new W #[.int .i64 m.a.n,.int .i64 m.a.d,.int .i64 m.b.n,.int .i64 m.b.d,.int .i64 m.c.n,.int .i64 m.c.d,.int .i64 m.d.n,.int .i64 m.d.d,.int .i64 m.e.n,.int .i64 m.e.d,.int .i64 m.f.n,.int .i64 m.f.d] 113).alloc _).alloc _,(((Below.refl _ W).alloc Nat.le.refl _).alloc (by simp) _).alloc (by simp;omega) _,by simp⟩
 have HN:=numbered_any
 go_enter Tryz.func210,Tryz.ntmps210
 go_wp2_with (first | (go_at_call 223;refine HP1.mono ?_;rintro e w2 ⟨⟨pb,hp,rfl,p0,p1⟩,hb2⟩;have hB2:=(BR.below hb1 Nat.le.refl).below hb2 Nat.le.refl;have zc0:=hB2.cell 0 _ rfl;have zf0:=hB2.froz 0 _ rfl;have zc1:=hB2.cell 1 _ rfl;have zf1:=hB2.froz 1 _ rfl;have zc2:=hB2.cell 2 _ rfl;have zf2:=hB2.froz 2 _ rfl;have zc3:=hB2.cell 3 _ rfl;have zf3:=hB2.froz 3 _ rfl) | (go_at_call 256;refine (HN 6 (.slice (some ⟨w1.heap.size,0,none⟩) 2 2) _ _ _ rfl _).mono ?_;rintro e wn ⟨rfl,rfl⟩;have HP1:=HP w1 (hE.below hb Nat.le.refl |>.below hb1 Nat.le.refl);simp only [World.size_alloc]) | (go_at_call 174;obtain ⟨V,hV,BR,BP,BM,hb,hz⟩:=hF;refine (HFM _ (hV ▸ hE.below hb Nat.le.refl)).mono ?_;rw [hV];rintro e w1 ⟨rfl,hb1⟩;have BP1:=BP.below hb1 Nat.le.refl;have s1:=hb1.size;have pc0:=BP1.cell 0 _ rfl;have pc1:=BP1.cell 1 _ rfl;have pc2:=BP1.cell 2 _ rfl;have pc3:=BP1.cell 3 _ rfl))
 have hz2:=hb2.size
 refine bodyPost_ret (v:=.tuple #[pv .zero,.iface 143 (.pointer (some ⟨pb,0,none⟩))]) (by simp [results,Tryz.results210,go_sem,Pt.zero,Fr.zero,zc0,zc1,zc2,zc3]) rfl ⟨⟨pb,by omega,rfl,?_,?_⟩,?_⟩
 ·exact (put_cell (p:=⟨pb,0,none⟩) (R:=W.heap.size+1+1) (by simp only;omega) [.int .i64 0,.int .i64 0,.int .i64 0,.int .i64 0] 0 w2).trans p0
 ·exact (put_cell (p:=⟨pb,1,none⟩) (R:=W.heap.size+1+1) (by simp only;omega) [.int .i64 0,.int .i64 0,.int .i64 0,.int .i64 0] 0 w2).trans p1
 ·exact put_below (R:=W.heap.size+1+1) (by omega) [.int .i64 0,.int .i64 0,.int .i64 0,.int .i64 0] 0 ((hb.trans (hb1.mono (by omega))).trans (hb2.mono (by omega)))
theorem at_go (aB aS aZ:Addr) (m:Mv) (p q:Pt) (W:World) (hE:E3 aB aS aZ W) (HFM:FineC aB aS aZ m) (HP:FineP aB aS aZ p)
  (T:∀ b V,Wk aB aS aZ W b 0 V->Calls Tryz.prog 176 #[.pointer (some ⟨b,0,none⟩),mv m,pv p] V fun e w'=>e=.returned (.agg #[.int .i64 q.x.n,.int .i64 q.x.d,.int .i64 q.y.n,.int .i64 q.y.d])/\Wk aB aS aZ W b 0 w'/\Upto b V w') :
  Calls Tryz.prog 210 #[mv m,pv p] W fun e w'=>e=.returned (.tuple #[pv q,.nilIface])/\Below W.heap.size W w':=by
 have hF:∃ V,(((W.alloc (.cells #[.int .i64 m.a.n,.int .i64 m.a.d,.int .i64 m.b.n,.int .i64 m.b.d,.int .i64 m.c.n,.int .i64 m.c.d,.int .i64 m.d.n,.int .i64 m.d.d,.int .i64 m.e.n,.int .i64 m.e.d,.int .i64 m.f.n,.int .i64 m.f.d] 113)).alloc (.cells #[.int .i64 p.x.n,.int .i64 p.x.d,.int .i64 p.y.n,.int .i64 p.y.d] 121)).alloc (.cells #[.int .i64 0,.int .i64 0,.int .i64 0,.int .i64 0] 121))=V/\Blk V (W.heap.size+1+1) #[.int .i64 0,.int .i64 0,.int .i64 0,.int .i64 0] 121/\Blk V (W.heap.size+1) #[.int .i64 p.x.n,.int .i64 p.x.d,.int .i64 p.y.n,.int .i64 p.y.d] 121/\Blk V W.heap.size #[.int .i64 m.a.n,.int .i64 m.a.d,.int .i64 m.b.n,.int .i64 m.b.d,.int .i64 m.c.n,.int .i64 m.c.d,.int .i64 m.d.n,.int .i64 m.d.d,.int .i64 m.e.n,.int .i64 m.e.d,.int .i64 m.f.n,.int .i64 m.f.d] 113/\Below W.heap.size W V/\V.heap.size=W.heap.size+3:=⟨_,rfl,by simpa using Blk.new ((W.alloc (.cells #[.int .i64 m.a.n,.int .i64 m.a.d,.int .i64 m.b.n,.int .i64 m.b.d,.int .i64 m.c.n,.int .i64 m.c.d,.int .i64 m.d.n,.int .i64 m.d.d,.int .i64 m.e.n,.int .i64 m.e.d,.int .i64 m.f.n,.int .i64 m.f.d] 113)).alloc (.cells #[.int .i64 p.x.n,.int .i64 p.x.d,.int .i64 p.y.n,.int .i64 p.y.d] 121)) #[.int .i64 0,.int .i64 0,.int .i64 0,.int .i64 0] 121,(by simpa using Blk.new (W.alloc (.cells #[.int .i64 m.a.n,.int .i64 m.a.d,.int .i64 m.b.n,.int .i64 m.b.d,.int .i64 m.c.n,.int .i64 m.c.d,.int .i64 m.d.n,.int .i64 m.d.d,.int .i64 m.e.n,.int .i64 m.e.d,.int .i64 m.f.n,.int .i64 m.f.d] 113)) #[.int .i64 p.x.n,.int .i64 p.x.d,.int .i64 p.y.n,.int .i64 p.y.d] 121:Blk _ _ _ _).alloc _,((Blk.new W #[.int .i64 m.a.n,.int .i64 m.a.d,.int .i64 m.b.n,.int .i64 m.b.d,.int .i64 m.c.n,.int .i64 m.c.d,.int .i64 m.d.n,.int .i64 m.d.d,.int .i64 m.e.n,.int .i64 m.e.d,.int .i64 m.f.n,.int .i64 m.f.d] 113).alloc _).alloc _,(((Below.refl _ W).alloc Nat.le.refl _).alloc (by simp) _).alloc (by simp;omega) _,by simp⟩
 have HN:=numbered_any
 go_enter Tryz.func210,Tryz.ntmps210
 go_wp2_with (first | (go_at_call 176;clear ac0 ac1 ac2 ac3 ac4 ac5 ac6 ac7 ac8 ac9 ac10 ac11 ac12 ac13 ac14 ac15;refine (T _ _ ⟨hE,HB2.alloc HB2.size _,HB2.size,cell_at rfl rfl,froz_at_m rfl⟩).mono ?_;rintro e w3 ⟨rfl,hk3,hu3⟩;have n2:W.heap.size+1+1≠w2.heap.size:=(by omega);have BR3:=((BR2.alloc _).upto hu3 n2).alloc (.cells #[.int .i64 q.x.n,.int .i64 q.x.d,.int .i64 q.y.n,.int .i64 q.y.d] 121);have zc0:=BR3.cell 0 _ rfl;have zf0:=BR3.froz 0 _ rfl;have zc1:=BR3.cell 1 _ rfl;have zf1:=BR3.froz 1 _ rfl;have zc2:=BR3.cell 2 _ rfl;have zf2:=BR3.froz 2 _ rfl;have zc3:=BR3.cell 3 _ rfl;have zf3:=BR3.froz 3 _ rfl;have hk4:=hk3.alloc (.cells #[.int .i64 q.x.n,.int .i64 q.x.d,.int .i64 q.y.n,.int .i64 q.y.d] 121);have kc:=hk4.cell;simp only [er_0] at kc;have nq:¬ w2.heap.size=W.heap.size+1+1:=(by omega);have nq':¬ W.heap.size+1+1=w2.heap.size:=(by omega);have s3:=hu3.size;simp only [World.size_alloc] at s3;have nr:¬ W.heap.size+1+1=w3.heap.size:=(by omega);have nr':¬ w3.heap.size=W.heap.size+1+1:=(by omega)) | (go_at_call 223;refine HP1.mono ?_;rintro e w2 ⟨rfl,hb2⟩;clear pc0 pc1 pc2 pc3 HP1;have BM2:=(BM.below hb1 Nat.le.refl).below hb2 Nat.le.refl;have BP2:=BP1.below hb2 Nat.le.refl;have BR2:=(BR.below hb1 Nat.le.refl).below hb2 Nat.le.refl;have s2:=hb2.size;have HB2:=(hb.trans (hb1.mono (by omega))).trans (hb2.mono (by omega));have ac0:=fun o=>cell_al o (BM2.cell 0 _ rfl);have ac1:=fun o=>cell_al o (BM2.cell 1 _ rfl);have ac2:=fun o=>cell_al o (BM2.cell 2 _ rfl);have ac3:=fun o=>cell_al o (BM2.cell 3 _ rfl);have ac4:=fun o=>cell_al o (BM2.cell 4 _ rfl);have ac5:=fun o=>cell_al o (BM2.cell 5 _ rfl);have ac6:=fun o=>cell_al o (BM2.cell 6 _ rfl);have ac7:=fun o=>cell_al o (BM2.cell 7 _ rfl);have ac8:=fun o=>cell_al o (BM2.cell 8 _ rfl);have ac9:=fun o=>cell_al o (BM2.cell 9 _ rfl);have ac10:=fun o=>cell_al o (BM2.cell 10 _ rfl);have ac11:=fun o=>cell_al o (BM2.cell 11 _ rfl);have ac12:=fun o=>cell_al o (BP2.cell 0 _ rfl);have ac13:=fun o=>cell_al o (BP2.cell 1 _ rfl);have ac14:=fun o=>cell_al o (BP2.cell 2 _ rfl);have ac15:=fun o=>cell_al o (BP2.cell 3 _ rfl)) | (go_at_call 256;refine (HN 6 (.slice (some ⟨w1.heap.size,0,none⟩) 2 2) _ _ _ rfl _).mono ?_;rintro e wn ⟨rfl,rfl⟩;have HP1:=HP w1 (hE.below hb Nat.le.refl |>.below hb1 Nat.le.refl);simp only [World.size_alloc]) | (go_at_call 174;obtain ⟨V,hV,BR,BP,BM,hb,hz⟩:=hF;refine (HFM _ (hV ▸ hE.below hb Nat.le.refl)).mono ?_;rw [hV];rintro e w1 ⟨rfl,hb1⟩;have BP1:=BP.below hb1 Nat.le.refl;have s1:=hb1.size;have pc0:=BP1.cell 0 _ rfl;have pc1:=BP1.cell 1 _ rfl;have pc2:=BP1.cell 2 _ rfl;have pc3:=BP1.cell 3 _ rfl))
 refine bodyPost_ret (v:=.tuple #[pv q,.nilIface]) (by simp [results,Tryz.results210,go_sem,zc0,zc1,zc2,zc3]) rfl ⟨rfl,?_⟩
 exact put_below (R:=W.heap.size+1+1) (by omega) [.int .i64 q.x.n,.int .i64 q.x.d,.int .i64 q.y.n,.int .i64 q.y.d] 0 hk4.hb
theorem at_err (aB aS aZ:Addr) (m:Mv) (p q:Pt) (W:World) (hE:E3 aB aS aZ W) (HFM:FineC aB aS aZ m) (HP:FineP aB aS aZ p)
  (T:∀ b V,Wk aB aS aZ W b 0 V->Calls Tryz.prog 176 #[.pointer (some ⟨b,0,none⟩),mv m,pv p] V fun e w'=>e=.returned (.agg #[.int .i64 q.x.n,.int .i64 q.x.d,.int .i64 q.y.n,.int .i64 q.y.d])/\Wk aB aS aZ W b 2 w'/\Upto b V w') :
  Calls Tryz.prog 210 #[mv m,pv p] W fun e w'=>e=.returned (.tuple #[pv .zero,.iface 409 (.pointer (some aB))])/\Below W.heap.size W w':=by
 have hF:∃ V,(((W.alloc (.cells #[.int .i64 m.a.n,.int .i64 m.a.d,.int .i64 m.b.n,.int .i64 m.b.d,.int .i64 m.c.n,.int .i64 m.c.d,.int .i64 m.d.n,.int .i64 m.d.d,.int .i64 m.e.n,.int .i64 m.e.d,.int .i64 m.f.n,.int .i64 m.f.d] 113)).alloc (.cells #[.int .i64 p.x.n,.int .i64 p.x.d,.int .i64 p.y.n,.int .i64 p.y.d] 121)).alloc (.cells #[.int .i64 0,.int .i64 0,.int .i64 0,.int .i64 0] 121))=V/\Blk V (W.heap.size+1+1) #[.int .i64 0,.int .i64 0,.int .i64 0,.int .i64 0] 121/\Blk V (W.heap.size+1) #[.int .i64 p.x.n,.int .i64 p.x.d,.int .i64 p.y.n,.int .i64 p.y.d] 121/\Blk V W.heap.size #[.int .i64 m.a.n,.int .i64 m.a.d,.int .i64 m.b.n,.int .i64 m.b.d,.int .i64 m.c.n,.int .i64 m.c.d,.int .i64 m.d.n,.int .i64 m.d.d,.int .i64 m.e.n,.int .i64 m.e.d,.int .i64 m.f.n,.int .i64 m.f.d] 113/\Below W.heap.size W V/\V.heap.size=W.heap.size+3:=⟨_,rfl,by simpa using Blk.new ((W.alloc (.cells #[.int .i64 m.a.n,.int .i64 m.a.d,.int .i64 m.b.n,.int .i64 m.b.d,.int .i64 m.c.n,.int .i64 m.c.d,.int .i64 m.d.n,.int .i64 m.d.d,.int .i64 m.e.n,.int .i64 m.e.d,.int .i64 m.f.n,.int .i64 m.f.d] 113)).alloc (.cells #[.int .i64 p.x.n,.int .i64 p.x.d,.int .i64 p.y.n,.int .i64 p.y.d] 121)) #[.int .i64 0,.int .i64 0,.int .i64 0,.int .i64 0] 121,(by simpa using Blk.new (W.alloc (.cells #[.int .i64 m.a.n,.int .i64 m.a.d,.int .i64 m.b.n,.int .i64 m.b.d,.int .i64 m.c.n,.int .i64 m.c.d,.int .i64 m.d.n,.int .i64 m.d.d,.int .i64 m.e.n,.int .i64 m.e.d,.int .i64 m.f.n,.int .i64 m.f.d] 113)) #[.int .i64 p.x.n,.int .i64 p.x.d,.int .i64 p.y.n,.int .i64 p.y.d] 121:Blk _ _ _ _).alloc _,((Blk.new W #[.int .i64 m.a.n,.int .i64 m.a.d,.int .i64 m.b.n,.int .i64 m.b.d,.int .i64 m.c.n,.int .i64 m.c.d,.int .i64 m.d.n,.int .i64 m.d.d,.int .i64 m.e.n,.int .i64 m.e.d,.int .i64 m.f.n,.int .i64 m.f.d] 113).alloc _).alloc _,(((Below.refl _ W).alloc Nat.le.refl _).alloc (by simp) _).alloc (by simp;omega) _,by simp⟩
 have HN:=numbered_any
 go_enter Tryz.func210,Tryz.ntmps210
 go_wp2_with (first | (go_at_call 176;clear ac0 ac1 ac2 ac3 ac4 ac5 ac6 ac7 ac8 ac9 ac10 ac11 ac12 ac13 ac14 ac15;refine (T _ _ ⟨hE,HB2.alloc HB2.size _,HB2.size,cell_at rfl rfl,froz_at_m rfl⟩).mono ?_;rintro e w3 ⟨rfl,hk3,hu3⟩;have n2:W.heap.size+1+1≠w2.heap.size:=(by omega);have BR3:=((BR2.alloc _).upto hu3 n2).alloc (.cells #[.int .i64 q.x.n,.int .i64 q.x.d,.int .i64 q.y.n,.int .i64 q.y.d] 121);have zc0:=BR3.cell 0 _ rfl;have zf0:=BR3.froz 0 _ rfl;have zc1:=BR3.cell 1 _ rfl;have zf1:=BR3.froz 1 _ rfl;have zc2:=BR3.cell 2 _ rfl;have zf2:=BR3.froz 2 _ rfl;have zc3:=BR3.cell 3 _ rfl;have zf3:=BR3.froz 3 _ rfl;have hk4:=hk3.alloc (.cells #[.int .i64 q.x.n,.int .i64 q.x.d,.int .i64 q.y.n,.int .i64 q.y.d] 121);have kc:=hk4.cell;simp only [er_2] at kc;have nq:¬ w2.heap.size=W.heap.size+1+1:=(by omega);have nq':¬ W.heap.size+1+1=w2.heap.size:=(by omega);have s3:=hu3.size;simp only [World.size_alloc] at s3;have nr:¬ W.heap.size+1+1=w3.heap.size:=(by omega);have nr':¬ w3.heap.size=W.heap.size+1+1:=(by omega)) | (go_at_call 223;refine HP1.mono ?_;rintro e w2 ⟨rfl,hb2⟩;clear pc0 pc1 pc2 pc3 HP1;have BM2:=(BM.below hb1 Nat.le.refl).below hb2 Nat.le.refl;have BP2:=BP1.below hb2 Nat.le.refl;have BR2:=(BR.below hb1 Nat.le.refl).below hb2 Nat.le.refl;have s2:=hb2.size;have HB2:=(hb.trans (hb1.mono (by omega))).trans (hb2.mono (by omega));have ac0:=fun o=>cell_al o (BM2.cell 0 _ rfl);have ac1:=fun o=>cell_al o (BM2.cell 1 _ rfl);have ac2:=fun o=>cell_al o (BM2.cell 2 _ rfl);have ac3:=fun o=>cell_al o (BM2.cell 3 _ rfl);have ac4:=fun o=>cell_al o (BM2.cell 4 _ rfl);have ac5:=fun o=>cell_al o (BM2.cell 5 _ rfl);have ac6:=fun o=>cell_al o (BM2.cell 6 _ rfl);have ac7:=fun o=>cell_al o (BM2.cell 7 _ rfl);have ac8:=fun o=>cell_al o (BM2.cell 8 _ rfl);have ac9:=fun o=>cell_al o (BM2.cell 9 _ rfl);have ac10:=fun o=>cell_al o (BM2.cell 10 _ rfl);have ac11:=fun o=>cell_al o (BM2.cell 11 _ rfl);have ac12:=fun o=>cell_al o (BP2.cell 0 _ rfl);have ac13:=fun o=>cell_al o (BP2.cell 1 _ rfl);have ac14:=fun o=>cell_al o (BP2.cell 2 _ rfl);have ac15:=fun o=>cell_al o (BP2.cell 3 _ rfl)) | (go_at_call 256;refine (HN 6 (.slice (some ⟨w1.heap.size,0,none⟩) 2 2) _ _ _ rfl _).mono ?_;rintro e wn ⟨rfl,rfl⟩;have HP1:=HP w1 (hE.below hb Nat.le.refl |>.below hb1 Nat.le.refl);simp only [World.size_alloc]) | (go_at_call 174;obtain ⟨V,hV,BR,BP,BM,hb,hz⟩:=hF;refine (HFM _ (hV ▸ hE.below hb Nat.le.refl)).mono ?_;rw [hV];rintro e w1 ⟨rfl,hb1⟩;have BP1:=BP.below hb1 Nat.le.refl;have s1:=hb1.size;have pc0:=BP1.cell 0 _ rfl;have pc1:=BP1.cell 1 _ rfl;have pc2:=BP1.cell 2 _ rfl;have pc3:=BP1.cell 3 _ rfl))
 go_region
 go_wp2
 refine bodyPost_ret (v:=.tuple #[pv .zero,.iface 409 (.pointer (some aB))]) (by simp [results,Tryz.results210,go_sem,Pt.zero,Fr.zero,zc0,zc1,zc2,zc3]) rfl ⟨rfl,?_⟩
 exact put_below (R:=W.heap.size+1+1) (by omega) [.int .i64 0,.int .i64 0,.int .i64 0,.int .i64 0] 0 (below_drewN hk4.hb 1)
end
section
open Go.RowKit
set_option maxHeartbeats 2000000
theorem whole_any (n:Int) (W:World):Calls Tryz.prog 86 #[.int .i64 n] W fun e w'=>e=.returned (.agg #[.int .i64 n,.int .i64 1])/\Below W.heap.size W w':=by
 go_enter Tryz.func86,Tryz.ntmps86
 go_wp2
 refine bodyPost_ret (v:=.agg #[.int .i64 n,.int .i64 1]) (by simp [results,Tryz.results86,go_sem]) rfl ⟨rfl,?_⟩
 exact (Below.refl _ W).alloc Nat.le.refl _
theorem One_any (W:World):Calls Tryz.prog 45 #[] W fun e w'=>e=.returned (mv .one)/\Below W.heap.size W w':=by
 obtain ⟨K1,K2,K3,K4,K5,K6⟩:=And.intro whole_any (And.intro whole_any (And.intro whole_any (And.intro whole_any (And.intro whole_any whole_any))))
 have B0:=Blk.new W #[.int .i64 0,.int .i64 0,.int .i64 0,.int .i64 0,.int .i64 0,.int .i64 0,.int .i64 0,.int .i64 0,.int .i64 0,.int .i64 0,.int .i64 0,.int .i64 0] 113
 have L0:=(Below.refl W.heap.size W).alloc Nat.le.refl (.cells #[.int .i64 0,.int .i64 0,.int .i64 0,.int .i64 0,.int .i64 0,.int .i64 0,.int .i64 0,.int .i64 0,.int .i64 0,.int .i64 0,.int .i64 0,.int .i64 0] 113)
 go_enter Tryz.func45,Tryz.ntmps45
 go_wp2_with (first | (go_at_call 86;refine (K1 _ _).mono ?_;clear K1;rintro e w1 ⟨rfl,hb1⟩;have B1:=B0.below hb1 Nat.le.refl;have L1:=L0.trans (hb1.mono L0.size)) | (go_at_call 86;refine (K2 _ _).mono ?_;clear K2;rintro e w2 ⟨rfl,hb2⟩;have B2:=B1.below hb2 Nat.le.refl;have L2:=L1.trans (hb2.mono L1.size)) | (go_at_call 86;refine (K3 _ _).mono ?_;clear K3;rintro e w3 ⟨rfl,hb3⟩;have B3:=B2.below hb3 Nat.le.refl;have L3:=L2.trans (hb3.mono L2.size)) | (go_at_call 86;refine (K4 _ _).mono ?_;clear K4;rintro e w4 ⟨rfl,hb4⟩;have B4:=B3.below hb4 Nat.le.refl;have L4:=L3.trans (hb4.mono L3.size)) | (go_at_call 86;refine (K5 _ _).mono ?_;clear K5;rintro e w5 ⟨rfl,hb5⟩;have B5:=B4.below hb5 Nat.le.refl;have L5:=L4.trans (hb5.mono L4.size)) | (go_at_call 86;refine (K6 _ _).mono ?_;clear K6;rintro e w6 ⟨rfl,hb6⟩;have B6:=B5.below hb6 Nat.le.refl;have L6:=L5.trans (hb6.mono L5.size);have zc0:=B6.cell 0 _ rfl;have zf0:=B6.froz 0 _ rfl;have zc1:=B6.cell 1 _ rfl;have zf1:=B6.froz 1 _ rfl;have zc2:=B6.cell 2 _ rfl;have zf2:=B6.froz 2 _ rfl;have zc3:=B6.cell 3 _ rfl;have zf3:=B6.froz 3 _ rfl;have zc4:=B6.cell 4 _ rfl;have zf4:=B6.froz 4 _ rfl;have zc5:=B6.cell 5 _ rfl;have zf5:=B6.froz 5 _ rfl;have zc6:=B6.cell 6 _ rfl;have zf6:=B6.froz 6 _ rfl;have zc7:=B6.cell 7 _ rfl;have zf7:=B6.froz 7 _ rfl;have zc8:=B6.cell 8 _ rfl;have zf8:=B6.froz 8 _ rfl;have zc9:=B6.cell 9 _ rfl;have zf9:=B6.froz 9 _ rfl;have zc10:=B6.cell 10 _ rfl;have zf10:=B6.froz 10 _ rfl;have zc11:=B6.cell 11 _ rfl;have zf11:=B6.froz 11 _ rfl))
 refine bodyPost_ret (v:=mv .one) (by simp [results,Tryz.results45,go_sem,Mv.one,Fr.whole,zc0,zc1,zc2,zc3,zc4,zc5,zc6,zc7,zc8,zc9,zc10,zc11]) rfl ⟨rfl,?_⟩
 exact put_below (R:=W.heap.size) Nat.le.refl [.int .i64 1,.int .i64 1,.int .i64 0,.int .i64 1,.int .i64 0,.int .i64 1,.int .i64 1,.int .i64 1,.int .i64 0,.int .i64 1,.int .i64 0,.int .i64 1] 0 L6
theorem thenS_split (m n:Mv):∃ q1 c1 q2 c2 q3 c3,turnedF 0 n ⟨m.a,m.b⟩=(q1,c1)/\turnedF c1 n ⟨m.c,m.d⟩=(q2,c2)/\movedF c2 n ⟨m.e,m.f⟩=(q3,c3)/\thenS m n=(⟨q1.x,q1.y,q2.x,q2.y,q3.x,q3.y⟩,c3):=by
 unfold thenS
 generalize turnedF 0 n ⟨m.a,m.b⟩=t
 obtain ⟨q1,c1⟩:=t
 generalize hu:turnedF (q1,c1).2 n ⟨m.c,m.d⟩=u
 obtain ⟨q2,c2⟩:=u
 generalize hv:movedF (q2,c2).2 n ⟨m.e,m.f⟩=v
 obtain ⟨q3,c3⟩:=v
 exact ⟨q1,c1,q2,c2,q3,c3,rfl,hu,hv,rfl⟩
theorem then_calls (aB aS aZ:Addr) {m n:Mv} (om:m.ok) (on:n.ok) (W:World):∃ q1 c1 q2 c2 q3 c3,thenS m n=(⟨q1.x,q1.y,q2.x,q2.y,q3.x,q3.y⟩,c3)/\
  (∀ b V,Wk aB aS aZ W b 0 V->Calls Tryz.prog 175 #[.pointer (some ⟨b,0,none⟩),mv n,.agg #[.int .i64 m.a.n,.int .i64 m.a.d,.int .i64 m.b.n,.int .i64 m.b.d]] V fun e w'=>e=.returned (pv q1)/\Wk aB aS aZ W b c1 w'/\Upto b V w')/\
  (∀ b V,Wk aB aS aZ W b c1 V->Calls Tryz.prog 175 #[.pointer (some ⟨b,0,none⟩),mv n,.agg #[.int .i64 m.c.n,.int .i64 m.c.d,.int .i64 m.d.n,.int .i64 m.d.d]] V fun e w'=>e=.returned (pv q2)/\Wk aB aS aZ W b c2 w'/\Upto b V w')/\
  (∀ b V,Wk aB aS aZ W b c2 V->Calls Tryz.prog 176 #[.pointer (some ⟨b,0,none⟩),mv n,.agg #[.int .i64 m.e.n,.int .i64 m.e.d,.int .i64 m.f.n,.int .i64 m.f.d]] V fun e w'=>e=.returned (pv q3)/\Wk aB aS aZ W b c3 w'/\Upto b V w'):=by
 obtain ⟨q1,c1,q2,c2,q3,c3,e1,e2,e3,e4⟩:=thenS_split m n
 obtain ⟨k1,_⟩:=turned_step (c:=0) (m:=n) (p:=⟨m.a,m.b⟩) (.inl rfl) on ⟨om.1,om.2.1⟩
 rw [e1] at k1
 obtain ⟨k2,_⟩:=turned_step (m:=n) (p:=⟨m.c,m.d⟩) k1 on ⟨om.2.2.1,om.2.2.2.1⟩
 rw [e2] at k2
 have T1:=fun b V h=>turned_any (aB:=aB) (aS:=aS) (aZ:=aZ) (w0:=W) (b:=b) (c:=0) (m:=n) (p:=⟨m.a,m.b⟩) (.inl rfl) on ⟨om.1,om.2.1⟩ V h
 have T2:=fun b V h=>turned_any (aB:=aB) (aS:=aS) (aZ:=aZ) (w0:=W) (b:=b) (m:=n) (p:=⟨m.c,m.d⟩) k1 on ⟨om.2.2.1,om.2.2.2.1⟩ V h
 have T3:=fun b V h=>moved_any (aB:=aB) (aS:=aS) (aZ:=aZ) (w0:=W) (b:=b) (m:=n) (p:=⟨m.e,m.f⟩) k2 on ⟨om.2.2.2.2.1,om.2.2.2.2.2⟩ V h
 rw [e1] at T1
 rw [e2] at T2
 rw [e3] at T3
 exact ⟨q1,c1,q2,c2,q3,c3,e4,T1,T2,T3⟩
theorem Then_ok {aB aS aZ:Addr} {m n x:Mv} (hm:m.i64) (hn:n.i64) (h:thenR m n=(x,.no)) (W:World) (hE:E3 aB aS aZ W) :
  Calls Tryz.prog 122 #[mv m,mv n] W fun e w'=>e=.returned (.tuple #[mv x,.nilIface])/\Below W.heap.size W w':=by
 unfold thenR at h
 by_cases h1:(firstBad 0 m.list).1=0
 ·rw [if_neg (by simp [h1])] at h
  by_cases h2:(firstBad 0 n.list).1=0
  ·rw [if_neg (by simp [h2])] at h
   by_cases h3:(thenS m n).2=0
   ·rw [if_pos h3] at h
    have hx:(thenS m n).1=x:=by simpa using congrArg Prod.fst h
    obtain ⟨q1,c1,q2,c2,q3,c3,e4,T1,T2,T3⟩:=then_calls aB aS aZ (mv_ok h1) (mv_ok h2) W
    rw [e4] at hx h3
    obtain rfl:c3=0:=h3
    subst hx
    exact then_go aB aS aZ m n q1 q2 q3 c1 c2 W hE (fineC hm h1) (fineC hn h2) T1 T2 T3
   ·rw [if_neg h3] at h;cases h
  ·rw [if_pos h2] at h;cases h
 ·rw [if_pos h1] at h;cases h
theorem Then_no {aB aS aZ:Addr} {m n:Mv} (hm:m.i64) (hn:n.i64) (h:∀ x,thenR m n≠(x,.no)) (W:World) (hE:E3 aB aS aZ W) :
  Calls Tryz.prog 122 #[mv m,mv n] W fun e w'=>(∃ v,e=.returned (.tuple #[mv .zero,v])/\(thenR m n).2.is aB aS aZ W.heap.size v w')/\Below W.heap.size W w':=by
 unfold thenR at h ⊢
 by_cases h1:(firstBad 0 m.list).1=0
 ·rw [if_neg (by simp [h1])] at h ⊢
  by_cases h2:(firstBad 0 n.list).1=0
  ·rw [if_neg (by simp [h2])] at h ⊢
   by_cases h3:(thenS m n).2=0
   ·rw [if_pos h3] at h;exact (h _ rfl).elim
   ·rw [if_neg h3]
    have h4:(thenS m n).2=2:=(then_step (mv_ok h1) (mv_ok h2)).1.resolve_left h3
    obtain ⟨q1,c1,q2,c2,q3,c3,e4,T1,T2,T3⟩:=then_calls aB aS aZ (mv_ok h1) (mv_ok h2) W
    rw [e4] at h4
    obtain rfl:c3=2:=h4
    refine (then_err aB aS aZ m n q1 q2 q3 c1 c2 W hE (fineC hm h1) (fineC hn h2) T1 T2 T3).mono ?_
    rintro e w' ⟨he,hb⟩
    exact ⟨⟨_,he,rfl,rfl⟩,hb⟩
  ·rw [if_pos h2]
   refine (then_badn aB aS aZ m n _ W hE (fineC hm h1) (badC hn h2)).mono ?_
   rintro e w' ⟨⟨pb,q1,he,q2,q3⟩,hb⟩
   exact ⟨⟨_,he,bad_23 h2,pb,q1,rfl,q2,q3⟩,hb⟩
 ·rw [if_pos h1]
  refine (then_badm aB aS aZ m n _ W hE (badC hm h1)).mono ?_
  rintro e w' ⟨⟨pb,q1,he,q2,q3⟩,hb⟩
  exact ⟨⟨_,he,bad_23 h1,pb,q1,rfl,q2,q3⟩,hb⟩
theorem At_ok {aB aS aZ:Addr} {m:Mv} {p q:Pt} (hm:m.i64) (hp:p.i64) (h:atR m p=(q,.no)) (W:World) (hE:E3 aB aS aZ W) :
  Calls Tryz.prog 210 #[mv m,pv p] W fun e w'=>e=.returned (.tuple #[pv q,.nilIface])/\Below W.heap.size W w':=by
 unfold atR at h
 by_cases h1:(firstBad 0 m.list).1=0
 ·rw [if_neg (by simp [h1])] at h
  by_cases h2:(firstBad 6 p.list).1=0
  ·rw [if_neg (by simp [h2])] at h
   by_cases h3:(movedF 0 m p).2=0
   ·rw [if_pos h3] at h
    obtain rfl:(movedF 0 m p).1=q:=by simpa using congrArg Prod.fst h
    have T:=fun b V h=>moved_any (aB:=aB) (aS:=aS) (aZ:=aZ) (w0:=W) (b:=b) (c:=0) (.inl rfl) (mv_ok h1) (pt_ok h2) V h
    rw [h3] at T
    exact at_go aB aS aZ m p _ W hE (fineC hm h1) (fineP hp h2) T
   ·rw [if_neg h3] at h;cases h
  ·rw [if_pos h2] at h;cases h
 ·rw [if_pos h1] at h;cases h
theorem At_no {aB aS aZ:Addr} {m:Mv} {p:Pt} (hm:m.i64) (hp:p.i64) (h:∀ q,atR m p≠(q,.no)) (W:World) (hE:E3 aB aS aZ W) :
  Calls Tryz.prog 210 #[mv m,pv p] W fun e w'=>(∃ v,e=.returned (.tuple #[pv .zero,v])/\(atR m p).2.is aB aS aZ W.heap.size v w')/\Below W.heap.size W w':=by
 unfold atR at h ⊢
 by_cases h1:(firstBad 0 m.list).1=0
 ·rw [if_neg (by simp [h1])] at h ⊢
  by_cases h2:(firstBad 6 p.list).1=0
  ·rw [if_neg (by simp [h2])] at h ⊢
   by_cases h3:(movedF 0 m p).2=0
   ·rw [if_pos h3] at h;exact (h _ rfl).elim
   ·rw [if_neg h3]
    have h4:(movedF 0 m p).2=2:=(moved_step (c:=0) (.inl rfl) (mv_ok h1) (pt_ok h2)).1.resolve_left h3
    have T:=fun b V h=>moved_any (aB:=aB) (aS:=aS) (aZ:=aZ) (w0:=W) (b:=b) (c:=0) (.inl rfl) (mv_ok h1) (pt_ok h2) V h
    rw [h4] at T
    refine (at_err aB aS aZ m p _ W hE (fineC hm h1) (fineP hp h2) T).mono ?_
    rintro e w' ⟨he,hb⟩
    exact ⟨⟨_,he,rfl,rfl⟩,hb⟩
  ·rw [if_pos h2]
   refine (at_badp aB aS aZ m p _ W hE (fineC hm h1) (badP hp h2)).mono ?_
   rintro e w' ⟨⟨pb,q1,he,q2,q3⟩,hb⟩
   exact ⟨⟨_,he,bad_23 h2,pb,q1,rfl,q2,q3⟩,hb⟩
 ·rw [if_pos h1]
  refine (at_badm aB aS aZ m p _ W hE (badC hm h1)).mono ?_
  rintro e w' ⟨⟨pb,q1,he,q2,q3⟩,hb⟩
  exact ⟨⟨_,he,bad_23 h1,pb,q1,rfl,q2,q3⟩,hb⟩
end
section
open Go.RowKit
set_option maxHeartbeats 2000000
theorem run_store_func_m (P:Program) (w:World) (a:Addr) (m:Mode) (f:Fn) (x y:Array Value):(store a (.func f x y) m).run P w=stored P w a (.func f x y) m:=run_store P w a _ m rfl
attribute [local go_sem] run_store_func_m
abbrev bMove:ByteArray:=⟨#[109,111,118,101]⟩
abbrev bScale:ByteArray:=⟨#[115,99,97,108,101]⟩
abbrev bTurn:ByteArray:=⟨#[116,117,114,110]⟩
abbrev bSkew:ByteArray:=⟨#[115,107,101,119]⟩
theorem ofFracs_any (k:Nat) (W:World):Calls Tryz.prog 266 #[.func (.func k) #[] #[]] W fun e w'=>e=.returned (.func (.func 301) #[] #[.pointer (some ⟨W.heap.size,0,none⟩)])/\w'=W.alloc (.cells #[.func (.func k) #[] #[]] 353):=by
 have hmf:∀ (fn:Fn) (first cap:Array Value) (w:World),(Instr.makeFunc fn first cap).run Tryz.prog w=.ok (.func fn first cap) w:=fun _ _ _ _=>rfl
 go_enter Tryz.func266,Tryz.ntmps266
 go_wp2
 go_ret
 exact ⟨rfl,rfl⟩
theorem kindOf_move (W:World):Calls Tryz.prog 221 #[.string bMove] W fun e w'=>(∃ B,W.heap.size<=B/\e=.returned (.tuple #[.agg #[.int .i64 2,.func (.func 301) #[] #[.pointer (some ⟨B,0,none⟩)]],.bool true])/\w'.cell? ⟨B,0,none⟩=some (.func (.func 267) #[] #[]))/\Below W.heap.size W w':=by
 have HO:=ofFracs_any
 go_enter Tryz.func221,Tryz.ntmps221
 go_wp2_with (go_at_call 266;refine (HO _ _).mono ?_;rintro e w1 ⟨rfl,rfl⟩)
 refine bodyPost_ret (v:=.tuple #[.agg #[.int .i64 2,.func (.func 301) #[] #[.pointer (some ⟨W.heap.size+1,0,none⟩)]],.bool true]) (by simp [results,Tryz.results221,go_sem]) rfl ⟨⟨W.heap.size+1,by omega,rfl,cell_at (by simp) rfl⟩,?_⟩
 exact ((Below.refl _ W).alloc Nat.le.refl _).alloc (by simp) _
theorem kindOf_scale (W:World):Calls Tryz.prog 221 #[.string bScale] W fun e w'=>(∃ B,W.heap.size<=B/\e=.returned (.tuple #[.agg #[.int .i64 2,.func (.func 301) #[] #[.pointer (some ⟨B,0,none⟩)]],.bool true])/\w'.cell? ⟨B,0,none⟩=some (.func (.func 268) #[] #[]))/\Below W.heap.size W w':=by
 have HO:=ofFracs_any
 go_enter Tryz.func221,Tryz.ntmps221
 go_wp2_with (go_at_call 266;refine (HO _ _).mono ?_;rintro e w1 ⟨rfl,rfl⟩)
 refine bodyPost_ret (v:=.tuple #[.agg #[.int .i64 2,.func (.func 301) #[] #[.pointer (some ⟨W.heap.size+1,0,none⟩)]],.bool true]) (by simp [results,Tryz.results221,go_sem]) rfl ⟨⟨W.heap.size+1,by omega,rfl,cell_at (by simp) rfl⟩,?_⟩
 exact ((Below.refl _ W).alloc Nat.le.refl _).alloc (by simp) _
theorem kindOf_skew (W:World):Calls Tryz.prog 221 #[.string bSkew] W fun e w'=>(∃ B,W.heap.size<=B/\e=.returned (.tuple #[.agg #[.int .i64 1,.func (.func 301) #[] #[.pointer (some ⟨B,0,none⟩)]],.bool true])/\w'.cell? ⟨B,0,none⟩=some (.func (.func 270) #[] #[]))/\Below W.heap.size W w':=by
 have HO:=ofFracs_any
 go_enter Tryz.func221,Tryz.ntmps221
 go_wp2_with (go_at_call 266;refine (HO _ _).mono ?_;rintro e w1 ⟨rfl,rfl⟩)
 refine bodyPost_ret (v:=.tuple #[.agg #[.int .i64 1,.func (.func 301) #[] #[.pointer (some ⟨W.heap.size+1,0,none⟩)]],.bool true]) (by simp [results,Tryz.results221,go_sem]) rfl ⟨⟨W.heap.size+1,by omega,rfl,cell_at (by simp) rfl⟩,?_⟩
 exact ((Below.refl _ W).alloc Nat.le.refl _).alloc (by simp) _
theorem kindOf_turn (W:World):Calls Tryz.prog 221 #[.string bTurn] W fun e w'=>e=.returned (.tuple #[.agg #[.int .i64 1,.func (.func 269) #[] #[]],.bool true])/\Below W.heap.size W w':=by
 go_enter Tryz.func221,Tryz.ntmps221
 go_wp2
 refine bodyPost_ret (v:=.tuple #[.agg #[.int .i64 1,.func (.func 269) #[] #[]],.bool true]) (by simp [results,Tryz.results221,go_sem]) rfl ⟨rfl,?_⟩
 exact (Below.refl _ W).alloc Nat.le.refl _
end
end Go.Proofs.YtgphclgmmocdhaaGreatDoor

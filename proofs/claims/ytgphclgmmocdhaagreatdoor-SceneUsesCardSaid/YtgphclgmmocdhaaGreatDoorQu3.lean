/-
  Parts of the proof.
-/
import Derived.Test.YtgphclgmmocdhaaGreatDoorQu2
namespace Go.Proofs.YtgphclgmmocdhaaGreatDoor
section
open Go.RowKit
set_option maxHeartbeats 8000000
theorem keepm {b Q:Nat} {W A B:World} {m:Mv} {q:Pt} (hu:Upto b A B) (h1:W.heap.size≠b) (h3:Q≠b) (h:(fun w'=>w'.cell? ⟨W.heap.size,8,none⟩=some (.int .i64 m.e.n)/\w'.cell? ⟨W.heap.size,9,none⟩=some (.int .i64 m.e.d)/\w'.cell? ⟨W.heap.size,10,none⟩=some (.int .i64 m.f.n)/\w'.cell? ⟨W.heap.size,11,none⟩=some (.int .i64 m.f.d)/\w'.cell? ⟨Q,0,none⟩=some (.int .i64 q.x.n)/\w'.cell? ⟨Q,1,none⟩=some (.int .i64 q.x.d)/\w'.cell? ⟨Q,2,none⟩=some (.int .i64 q.y.n)/\w'.cell? ⟨Q,3,none⟩=some (.int .i64 q.y.d)) A):(fun w'=>w'.cell? ⟨W.heap.size,8,none⟩=some (.int .i64 m.e.n)/\w'.cell? ⟨W.heap.size,9,none⟩=some (.int .i64 m.e.d)/\w'.cell? ⟨W.heap.size,10,none⟩=some (.int .i64 m.f.n)/\w'.cell? ⟨W.heap.size,11,none⟩=some (.int .i64 m.f.d)/\w'.cell? ⟨Q,0,none⟩=some (.int .i64 q.x.n)/\w'.cell? ⟨Q,1,none⟩=some (.int .i64 q.x.d)/\w'.cell? ⟨Q,2,none⟩=some (.int .i64 q.y.n)/\w'.cell? ⟨Q,3,none⟩=some (.int .i64 q.y.d)) B:=by
 obtain ⟨k0,k1,k2,k3,k4,k5,k6,k7⟩:=h
 exact ⟨hu.cell k0 h1,hu.cell k1 h1,hu.cell k2 h1,hu.cell k3 h1,hu.cell k4 h3,hu.cell k5 h3,hu.cell k6 h3,hu.cell k7 h3⟩
theorem keepms {Q R:Nat} {W w:World} {m:Mv} {q:Pt} {v1 v2 v3 v4:Value} (h:(fun w'=>w'.cell? ⟨W.heap.size,8,none⟩=some (.int .i64 m.e.n)/\w'.cell? ⟨W.heap.size,9,none⟩=some (.int .i64 m.e.d)/\w'.cell? ⟨W.heap.size,10,none⟩=some (.int .i64 m.f.n)/\w'.cell? ⟨W.heap.size,11,none⟩=some (.int .i64 m.f.d)/\w'.cell? ⟨Q,0,none⟩=some (.int .i64 q.x.n)/\w'.cell? ⟨Q,1,none⟩=some (.int .i64 q.x.d)/\w'.cell? ⟨Q,2,none⟩=some (.int .i64 q.y.n)/\w'.cell? ⟨Q,3,none⟩=some (.int .i64 q.y.d)) w) (h1:R≠W.heap.size) (h3:R≠Q):(fun w'=>w'.cell? ⟨W.heap.size,8,none⟩=some (.int .i64 m.e.n)/\w'.cell? ⟨W.heap.size,9,none⟩=some (.int .i64 m.e.d)/\w'.cell? ⟨W.heap.size,10,none⟩=some (.int .i64 m.f.n)/\w'.cell? ⟨W.heap.size,11,none⟩=some (.int .i64 m.f.d)/\w'.cell? ⟨Q,0,none⟩=some (.int .i64 q.x.n)/\w'.cell? ⟨Q,1,none⟩=some (.int .i64 q.x.d)/\w'.cell? ⟨Q,2,none⟩=some (.int .i64 q.y.n)/\w'.cell? ⟨Q,3,none⟩=some (.int .i64 q.y.d)) ((((w.setCell ⟨R,0,none⟩ v1).setCell ⟨R,1,none⟩ v2).setCell ⟨R,2,none⟩ v3).setCell ⟨R,3,none⟩ v4):=by
 obtain ⟨k0,k1,k2,k3,k4,k5,k6,k7⟩:=h
 exact ⟨(World.cell?_setCell_far _ _ _ _ h1).trans ((World.cell?_setCell_far _ _ _ _ h1).trans ((World.cell?_setCell_far _ _ _ _ h1).trans ((World.cell?_setCell_far _ _ _ _ h1).trans k0))),(World.cell?_setCell_far _ _ _ _ h1).trans ((World.cell?_setCell_far _ _ _ _ h1).trans ((World.cell?_setCell_far _ _ _ _ h1).trans ((World.cell?_setCell_far _ _ _ _ h1).trans k1))),(World.cell?_setCell_far _ _ _ _ h1).trans ((World.cell?_setCell_far _ _ _ _ h1).trans ((World.cell?_setCell_far _ _ _ _ h1).trans ((World.cell?_setCell_far _ _ _ _ h1).trans k2))),(World.cell?_setCell_far _ _ _ _ h1).trans ((World.cell?_setCell_far _ _ _ _ h1).trans ((World.cell?_setCell_far _ _ _ _ h1).trans ((World.cell?_setCell_far _ _ _ _ h1).trans k3))),(World.cell?_setCell_far _ _ _ _ h3).trans ((World.cell?_setCell_far _ _ _ _ h3).trans ((World.cell?_setCell_far _ _ _ _ h3).trans ((World.cell?_setCell_far _ _ _ _ h3).trans k4))),(World.cell?_setCell_far _ _ _ _ h3).trans ((World.cell?_setCell_far _ _ _ _ h3).trans ((World.cell?_setCell_far _ _ _ _ h3).trans ((World.cell?_setCell_far _ _ _ _ h3).trans k5))),(World.cell?_setCell_far _ _ _ _ h3).trans ((World.cell?_setCell_far _ _ _ _ h3).trans ((World.cell?_setCell_far _ _ _ _ h3).trans ((World.cell?_setCell_far _ _ _ _ h3).trans k6))),(World.cell?_setCell_far _ _ _ _ h3).trans ((World.cell?_setCell_far _ _ _ _ h3).trans ((World.cell?_setCell_far _ _ _ _ h3).trans ((World.cell?_setCell_far _ _ _ _ h3).trans k7)))⟩
theorem moved_abs (aB aS aZ:Addr) (w0:World) (b:Nat) (m:Mv) (p q:Pt) (r1 r2:Fr) (c c6 c7 c8:Nat) (W:World) (h:Wk aB aS aZ w0 b c W)
  (HT:∀ W,Wk aB aS aZ w0 b c W->Calls Tryz.prog 175 #[.pointer (some ⟨b,0,none⟩),mv m,pv p] W fun e w'=>e=.returned (.agg #[.int .i64 q.x.n,.int .i64 q.x.d,.int .i64 q.y.n,.int .i64 q.y.d])/\Wk aB aS aZ w0 b c6 w'/\Upto b W w')
  (D7:DoC aB aS aZ w0 b 215 c6 q.x m.e r1 c7) (D8:DoC aB aS aZ w0 b 215 c7 q.y m.f r2 c8) :
  Calls Tryz.prog 176 #[.pointer (some ⟨b,0,none⟩),mv m,pv p] W fun e w'=>e=.returned (.agg #[.int .i64 r1.n,.int .i64 r1.d,.int .i64 r2.n,.int .i64 r2.d])/\Wk aB aS aZ w0 b c8 w'/\Upto b W w':=by
 have hlt:=cell_lt h.cell
 simp only at hlt
 have nb0:W.heap.size≠b:=by omega
 have hw0:=h.hb.size
 have hF:∃ V,(((W.alloc (.cells #[.int .i64 m.a.n,.int .i64 m.a.d,.int .i64 m.b.n,.int .i64 m.b.d,.int .i64 m.c.n,.int .i64 m.c.d,.int .i64 m.d.n,.int .i64 m.d.d,.int .i64 m.e.n,.int .i64 m.e.d,.int .i64 m.f.n,.int .i64 m.f.d] 113)).alloc (.cells #[.int .i64 p.x.n,.int .i64 p.x.d,.int .i64 p.y.n,.int .i64 p.y.d] 121)).alloc (.cells #[.int .i64 0,.int .i64 0,.int .i64 0,.int .i64 0] 121))=V/\Head W m p V/\Wk aB aS aZ w0 b c V/\Upto b W V:=⟨_,rfl,Head.new W m p,((h.alloc _).alloc _).alloc _,(((Upto.refl b W).alloc _).alloc _).alloc _⟩
 go_enter Tryz.func176,Tryz.ntmps176
 go_wp2_with (go_at_call 175;obtain ⟨V,hV,hH,HK,HU⟩:=hF;refine (HT _ (hV ▸ HK)).mono ?_;rw [hV];rintro e wt ⟨rfl,hk,hu⟩)
 have H0:=(hH.upto hu hlt).upto ((Upto.refl b wt).alloc (.cells #[.int .i64 q.x.n,.int .i64 q.x.d,.int .i64 q.y.n,.int .i64 q.y.d] 121)) hlt |>.upto (Upto.drew b _ 1) hlt
 have hj0:=(hk.alloc (.cells #[.int .i64 q.x.n,.int .i64 q.x.d,.int .i64 q.y.n,.int .i64 q.y.d] 121)).drew 1
 have nbq:=hk.ne
 have U0:=((HU.trans hu).alloc (.cells #[.int .i64 q.x.n,.int .i64 q.x.d,.int .i64 q.y.n,.int .i64 q.y.d] 121)).trans (Upto.drew b _ 1)
 have hsz:=(hH.upto hu hlt).sz
 have hS:(fun w'=>w'.cell? ⟨W.heap.size,8,none⟩=some (.int .i64 m.e.n)/\w'.cell? ⟨W.heap.size,9,none⟩=some (.int .i64 m.e.d)/\w'.cell? ⟨W.heap.size,10,none⟩=some (.int .i64 m.f.n)/\w'.cell? ⟨W.heap.size,11,none⟩=some (.int .i64 m.f.d)/\w'.cell? ⟨wt.heap.size,0,none⟩=some (.int .i64 q.x.n)/\w'.cell? ⟨wt.heap.size,1,none⟩=some (.int .i64 q.x.d)/\w'.cell? ⟨wt.heap.size,2,none⟩=some (.int .i64 q.y.n)/\w'.cell? ⟨wt.heap.size,3,none⟩=some (.int .i64 q.y.d)) ((wt.alloc (.cells #[.int .i64 q.x.n,.int .i64 q.x.d,.int .i64 q.y.n,.int .i64 q.y.d] 121)).drewN 1):=⟨H0.c8,H0.c9,H0.c10,H0.c11,cell_at rfl rfl,cell_at rfl rfl,cell_at rfl rfl,cell_at rfl rfl⟩
 have nr1:W.heap.size+1+1≠W.heap.size:=by omega
 have nr2:W.heap.size+1+1≠wt.heap.size:=by omega
 go_region_held3 (fun w'=>w'.cell? ⟨W.heap.size,8,none⟩=some (.int .i64 m.e.n)/\w'.cell? ⟨W.heap.size,9,none⟩=some (.int .i64 m.e.d)/\w'.cell? ⟨W.heap.size,10,none⟩=some (.int .i64 m.f.n)/\w'.cell? ⟨W.heap.size,11,none⟩=some (.int .i64 m.f.d)/\w'.cell? ⟨wt.heap.size,0,none⟩=some (.int .i64 q.x.n)/\w'.cell? ⟨wt.heap.size,1,none⟩=some (.int .i64 q.x.d)/\w'.cell? ⟨wt.heap.size,2,none⟩=some (.int .i64 q.y.n)/\w'.cell? ⟨wt.heap.size,3,none⟩=some (.int .i64 q.y.d)) (first | assumption | exact keepms (by assumption) nr1 nr2 | go_keep) (first | (go_at_call_of 225 (Value.int IntKind.i64 m.f.n);refine (D8 _ hj1).mono ?_;rintro e w2 ⟨rfl,hj2,hu2⟩;have hs2:=keepm hu2 nb0 nbq (by assumption);have U2:=U1.trans hu2;have H2:=H1.upto hu2 hlt;obtain ⟨e0,e1,e2,e3⟩:=And.intro H2.r0 (And.intro H2.r1 (And.intro H2.r2 H2.r3));obtain ⟨f0,f1,f2,f3⟩:=And.intro H2.f0 (And.intro H2.f1 (And.intro H2.f2 H2.f3))) | (go_at_call_of 225 (Value.int IntKind.i64 m.e.n);refine (D7 _ hj0).mono ?_;rintro e w1 ⟨rfl,hj1,hu1⟩;have hs1:=keepm hu1 nb0 nbq (by assumption);have U1:=U0.trans hu1;have H1:=H0.upto hu1 hlt;skip))
 go_wp2
 refine bodyPost_ret (v:=.agg #[.int .i64 r1.n,.int .i64 r1.d,.int .i64 r2.n,.int .i64 r2.d]) (by simp [results,Tryz.results176,go_sem,e0,e1,e2,e3]) rfl ⟨rfl,?_,?_⟩
 ·have hq:w0.heap.size<=W.heap.size+1+1:=by omega
  have hn:W.heap.size+1+1≠b:=by omega
  exact (((hj2.store hq hn _ _).store hq hn _ _).store hq hn _ _).store hq hn _ _
 ·have hq:W.heap.size<=W.heap.size+1+1:=by omega
  exact (((U2.store hq _ _).store hq _ _).store hq _ _).store hq _ _
end
section
open Go.RowKit
set_option maxHeartbeats 2000000
theorem ok_i64 {x:Fr} (h:x.ok):x.i64:=i64_of_chk h
theorem zero_i64:Fr.zero.i64:=⟨⟨by decide,by decide⟩,⟨by decide,by decide⟩⟩
theorem Good.i64 {op:Op4} {F:Rat->Rat->Rat} (g:Good op F) {c:Nat} {x y:Fr} (hx:c=0->x.ok) (hy:c=0->y.ok):(doF op c x y).1.i64:=by
 by_cases hc:c=0
 ·subst hc
  rcases g.two x y (hx rfl) (hy rfl) with h | h
  ·have:=g.val x y (op x.n x.d y.n y.d).n (op x.n x.d y.n y.d).d (by rw [<- h])
   simp only [doF,if_pos]
   exact ok_i64 this.2.2.1
  ·simp only [doF,if_pos,h];exact zero_i64
 ·simp only [doF,if_neg hc];exact zero_i64
theorem Good.code {op:Op4} {F:Rat->Rat->Rat} (g:Good op F) {x y:Fr} (hx:x.ok) (hy:y.ok):(op x.n x.d y.n y.d).c=0\/(op x.n x.d y.n y.d).c=2:=by
 rcases g.two x y hx hy with h | h
 ·exact .inl h
 ·exact .inr (by rw [h])
theorem dot_steps {aB aS aZ:Addr} {w0:World} {b c:Nat} {a x d y:Fr} (hc:c=0\/c=2) (ha:a.ok) (hx:x.ok) (hd:d.ok) (hy:y.ok) :
  ∃ x1 c1 x2 c2,DoC aB aS aZ w0 b 226 c a x x1 c1/\DoC aB aS aZ w0 b 226 c1 d y x2 c2/\DoC aB aS aZ w0 b 215 c2 x1 x2 (dotF c a x d y).1 (dotF c a x d y).2:=by
 obtain ⟨h1,k1⟩:=good_mul.step hc (fun _=>ha) (fun _=>hx)
 obtain ⟨h2,k2⟩:=good_mul.step h1 (fun _=>hd) (fun _=>hy)
 refine ⟨_,_,_,_,doC_mul hc (ok_i64 ha) (ok_i64 hx) (fun _=>good_mul.code ha hx),doC_mul h1 (ok_i64 hd) (ok_i64 hy) (fun _=>good_mul.code hd hy),?_⟩
 exact doC_add h2 (good_mul.i64 (fun _=>ha) (fun _=>hx)) (good_mul.i64 (fun _=>hd) (fun _=>hy)) (fun e=>good_add.code (k1 (k2 e).1).2.1 (k2 e).2.1)
theorem turned_any {aB aS aZ:Addr} {w0:World} {b c:Nat} {m:Mv} {p:Pt} (hc:c=0\/c=2) (hm:m.ok) (hp:p.ok) (W:World) (h:Wk aB aS aZ w0 b c W) :
  Calls Tryz.prog 175 #[.pointer (some ⟨b,0,none⟩),mv m,pv p] W fun e w'=>e=.returned (pv (turnedF c m p).1)/\Wk aB aS aZ w0 b (turnedF c m p).2 w'/\Upto b W w':=by
 obtain ⟨x1,c1,x2,c2,D1,D2,D3⟩:=dot_steps (aB:=aB) (aS:=aS) (aZ:=aZ) (w0:=w0) (b:=b) hc hm.1 hp.1 hm.2.2.1 hp.2
 obtain ⟨y1,c4,y2,c5,D4,D5,D6⟩:=dot_steps (aB:=aB) (aS:=aS) (aZ:=aZ) (w0:=w0) (b:=b) (dot_step hc hm.1 hp.1 hm.2.2.1 hp.2).1 hm.2.1 hp.1 hm.2.2.2.1 hp.2
 exact turned_abs aB aS aZ w0 b m p x1 x2 _ y1 y2 _ c c1 c2 _ c4 c5 _ W h D1 D2 D3 D4 D5 D6
theorem moved_any {aB aS aZ:Addr} {w0:World} {b c:Nat} {m:Mv} {p:Pt} (hc:c=0\/c=2) (hm:m.ok) (hp:p.ok) (W:World) (h:Wk aB aS aZ w0 b c W) :
  Calls Tryz.prog 176 #[.pointer (some ⟨b,0,none⟩),mv m,pv p] W fun e w'=>e=.returned (pv (movedF c m p).1)/\Wk aB aS aZ w0 b (movedF c m p).2 w'/\Upto b W w':=by
 obtain ⟨h1,k1⟩:=turned_step hc hm hp
 have HT:=fun W h=>turned_any (aB:=aB) (aS:=aS) (aZ:=aZ) (w0:=w0) (b:=b) hc hm hp W h
 have hi:(turnedF c m p).1.x.i64/\(turnedF c m p).1.y.i64:=by
  obtain ⟨g1,g2⟩:=good_mul.step hc (fun _=>hm.1) (fun _=>hp.1)
  obtain ⟨g3,g4⟩:=good_mul.step g1 (fun _=>hm.2.2.1) (fun _=>hp.2)
  obtain ⟨g5,_⟩:=dot_step hc hm.1 hp.1 hm.2.2.1 hp.2
  obtain ⟨g7,g8⟩:=good_mul.step g5 (fun _=>hm.2.1) (fun _=>hp.1)
  obtain ⟨_,g9⟩:=good_mul.step g7 (fun _=>hm.2.2.2.1) (fun _=>hp.2)
  exact ⟨good_add.i64 (fun e=>(g2 (g4 e).1).2.1) (fun e=>(g4 e).2.1),good_add.i64 (fun e=>(g8 (g9 e).1).2.1) (fun e=>(g9 e).2.1)⟩
 unfold movedF
 generalize turnedF c m p=t at h1 k1 HT hi ⊢
 obtain ⟨h2,k2⟩:=good_add.step h1 (x:=t.1.x) (y:=m.e) (fun e=>(k1 e).2.1.1) (fun _=>hm.2.2.2.2.1)
 exact moved_abs aB aS aZ w0 b m p t.1 _ _ c t.2 _ _ W h HT (doC_add h1 hi.1 (ok_i64 hm.2.2.2.2.1) (fun e=>good_add.code (k1 e).2.1.1 hm.2.2.2.2.1)) (doC_add h2 hi.2 (ok_i64 hm.2.2.2.2.2) (fun e=>good_add.code (k1 (k2 e).1).2.1.2 hm.2.2.2.2.2))
theorem answer_ok {aB aS aZ:Addr} {w0:World} {b:Nat} (m:Mv) (W:World) (h:Wk aB aS aZ w0 b 0 W) :
  Calls Tryz.prog 177 #[.pointer (some ⟨b,0,none⟩),mv m] W fun e w'=>e=.returned (.tuple #[mv m,.nilIface])/\Below W.heap.size W w':=by
 have k1:=(h.alloc (.cells #[.int .i64 m.a.n,.int .i64 m.a.d,.int .i64 m.b.n,.int .i64 m.b.d,.int .i64 m.c.n,.int .i64 m.c.d,.int .i64 m.d.n,.int .i64 m.d.d,.int .i64 m.e.n,.int .i64 m.e.d,.int .i64 m.f.n,.int .i64 m.f.d] 113)).alloc (.cells #[.int .i64 0,.int .i64 0,.int .i64 0,.int .i64 0,.int .i64 0,.int .i64 0,.int .i64 0,.int .i64 0,.int .i64 0,.int .i64 0,.int .i64 0,.int .i64 0] 113)
 have k2:=k1.cell
 rw [er_0] at k2
 clear k1
 go_enter Tryz.func177,Tryz.ntmps177
 go_wp2
 refine bodyPost_ret (v:=.tuple #[mv m,.nilIface]) (by simp [results,Tryz.results177,go_sem]) rfl ⟨rfl,?_⟩
 exact ((Below.refl _ W).alloc Nat.le.refl _).alloc (by simp) _
theorem answer_err {aB aS aZ:Addr} {w0:World} {b:Nat} (m:Mv) (W:World) (h:Wk aB aS aZ w0 b 2 W) :
  Calls Tryz.prog 177 #[.pointer (some ⟨b,0,none⟩),mv m] W fun e w'=>e=.returned (.tuple #[mv .zero,er aB aS aZ 2])/\Below W.heap.size W w':=by
 have k1:=(h.alloc (.cells #[.int .i64 m.a.n,.int .i64 m.a.d,.int .i64 m.b.n,.int .i64 m.b.d,.int .i64 m.c.n,.int .i64 m.c.d,.int .i64 m.d.n,.int .i64 m.d.d,.int .i64 m.e.n,.int .i64 m.e.d,.int .i64 m.f.n,.int .i64 m.f.d] 113)).alloc (.cells #[.int .i64 0,.int .i64 0,.int .i64 0,.int .i64 0,.int .i64 0,.int .i64 0,.int .i64 0,.int .i64 0,.int .i64 0,.int .i64 0,.int .i64 0,.int .i64 0] 113)
 have k2:=k1.cell
 rw [er_2] at k2
 have hlt:=cell_lt h.cell
 simp only at hlt
 have n1:¬ b=W.heap.size+1:=by omega
 have n2:¬ W.heap.size+1=b:=by omega
 clear k1
 go_enter Tryz.func177,Tryz.ntmps177
 go_wp2
 go_region
 go_wp2
 refine bodyPost_ret (v:=.tuple #[mv .zero,.iface 409 (.pointer (some aB))]) (by simp [results,Tryz.results177,go_sem,Mv.zero,Fr.zero]) rfl ⟨rfl,?_⟩
 exact below_drewN (((Below.refl _ W).alloc Nat.le.refl _).alloc (by simp) _) 1
end
section
open Go.RowKit
set_option maxHeartbeats 4000000
structure Blk (w:World) (R:Nat) (cs:Array Value) (t:TypeId):Prop where
 h:w.heap[R]? = some (.cells cs t)
theorem Blk.cell {w:World} {R:Nat} {cs:Array Value} {t:TypeId} (h:Blk w R cs t) (i:Nat) (v:Value) (hv:cs[i]? = some v):w.cell? ⟨R,i,none⟩=some v:=by simp [World.cell?,h.h,hv]
theorem Blk.froz {w:World} {R:Nat} {cs:Array Value} {t:TypeId} (h:Blk w R cs t) (i:Nat) (v:Value) (hv:cs[i]? = some v):w.frozen? ⟨R,i,none⟩=false:=by
 have:=h.cell i v hv;simp [World.frozen?,h.h]
theorem Blk.new (w:World) (cs:Array Value) (t:TypeId):Blk (w.alloc (.cells cs t)) w.heap.size cs t:=⟨World.alloc_heap_new w _⟩
theorem Blk.lt {w:World} {R:Nat} {cs:Array Value} {t:TypeId} (h:Blk w R cs t):R<w.heap.size:=(Array.getElem?_eq_some_iff.1 h.h).1
theorem Blk.below {w w':World} {B R:Nat} {cs:Array Value} {t:TypeId} (h:Blk w R cs t) (hb:Below B w w') (hB:w.heap.size<=B):Blk w' R cs t:=⟨(hb.block R (Nat.lt_of_lt_of_le h.lt hB)).trans h.h⟩
theorem Blk.alloc {w:World} {R:Nat} {cs:Array Value} {t:TypeId} (h:Blk w R cs t) (o:Obj):Blk (w.alloc o) R cs t:=h.below ((Below.refl _ w).alloc Nat.le.refl o) Nat.le.refl
theorem Blk.upto {w w':World} {b R:Nat} {cs:Array Value} {t:TypeId} (h:Blk w R cs t) (hu:Upto b w w') (hb:R≠b):Blk w' R cs t:=⟨(hu.block R h.lt hb).trans h.h⟩
def put (w:World) (R:Nat):Nat->List Value->World
 | _,[]=>w
 | o,v :: vs=>put (w.setCell ⟨R,o,none⟩ v) R (o+1) vs
theorem put_below {B R:Nat} {A:World} (hR:B<=R):∀ (vs:List Value) (o:Nat) {w:World},Below B A w->Below B A (put w R o vs)
 | [],_,_,h=>h
 | v :: vs,o,_,h=>put_below hR vs (o+1) (h.setCell hR v)
theorem put_cell {R:Nat} {p:Addr} (hp:p.block≠R):∀ (vs:List Value) (o:Nat) (w:World),(put w R o vs).cell? p=w.cell? p
 | [],_,_=>rfl
 | _ :: vs,o,_=>(put_cell hp vs (o+1) _).trans (World.cell?_setCell_far _ _ _ _ (fun e=>hp e.symm))
inductive Er where
 | no
 | bare (c:Nat)
 | fault (c i:Nat)
def Er.is (aB aS aZ:Addr) (B:Nat):Er->Value->World->Prop
 | .no,v,_=>v=.nilIface
 | .bare c,v,_=>c=2/\v=er aB aS aZ 2
 | .fault c i,v,W=>(c=2\/c=3)/\∃ pb,B<=pb/\v=.iface 143 (.pointer (some ⟨pb,0,none⟩))/\W.cell? ⟨pb,0,none⟩=some (.int .i64 i)/\W.cell? ⟨pb,1,none⟩=some (er aB aS aZ c)
theorem firstBad_zero:∀ (l:List Fr) (i:Nat),(firstBad i l).1=0->∀ y ∈ l,chk y.n y.d=0
 | [],_,_,_,h=>by simp at h
 | x :: r,i,h,y,hy=>by
  unfold firstBad at h
  by_cases hx:chk x.n x.d=0
  ·rw [if_pos hx] at h
   rcases List.mem_cons.1 hy with rfl | hy
   ·exact hx
   ·exact firstBad_zero r (i+1) h y hy
  ·rw [if_neg hx] at h;exact (hx h).elim
theorem mv_ok {m:Mv} (h:(firstBad 0 m.list).1=0):m.ok:=by
 have:=firstBad_zero _ _ h
 exact ⟨this _ (by simp [Mv.list]),this _ (by simp [Mv.list]),this _ (by simp [Mv.list]),this _ (by simp [Mv.list]),this _ (by simp [Mv.list]),this _ (by simp [Mv.list])⟩
theorem pt_ok {p:Pt} (h:(firstBad 6 p.list).1=0):p.ok:=by
 have:=firstBad_zero _ _ h
 exact ⟨this _ (by simp [Pt.list]),this _ (by simp [Pt.list])⟩
def thenR (m n:Mv):Mv × Er:=
 if (firstBad 0 m.list).1≠0 then (.zero,.fault (firstBad 0 m.list).1 (firstBad 0 m.list).2) else if (firstBad 0 n.list).1≠0 then (.zero,.fault (firstBad 0 n.list).1 (firstBad 0 n.list).2)
 else if (thenS m n).2=0 then ((thenS m n).1,.no) else (.zero,.bare 2)
def atR (m:Mv) (p:Pt):Pt × Er:=
 if (firstBad 0 m.list).1≠0 then (.zero,.fault (firstBad 0 m.list).1 (firstBad 0 m.list).2) else if (firstBad 6 p.list).1≠0 then (.zero,.fault (firstBad 6 p.list).1 (firstBad 6 p.list).2)
 else if (movedF 0 m p).2=0 then ((movedF 0 m p).1,.no) else (.zero,.bare 2)
def BadC (aB aS aZ:Addr) (m:Mv) (r:Nat × Nat):Prop:=∀ W,E3 aB aS aZ W->Calls Tryz.prog 174 #[mv m] W fun e w'=>(∃ pb,W.heap.size<=pb/\e=.returned (.iface 143 (.pointer (some ⟨pb,0,none⟩)))/\w'.cell? ⟨pb,0,none⟩=some (.int .i64 r.2)/\w'.cell? ⟨pb,1,none⟩=some (er aB aS aZ r.1))/\Below W.heap.size W w'
def FineC (aB aS aZ:Addr) (m:Mv):Prop:=∀ W,E3 aB aS aZ W->Calls Tryz.prog 174 #[mv m] W fun e w'=>e=.returned .nilIface/\Below W.heap.size W w'
theorem fineC {aB aS aZ:Addr} {m:Mv} (hi:m.i64) (h:(firstBad 0 m.list).1=0):FineC aB aS aZ m:=fun W hE=>(mvCheck_any aB aS aZ m hi W hE).mono fun e w' ⟨⟨v,he,ht⟩,hb⟩=>by
 rcases ht with ht | ht
 ·exact ⟨by rw [he,ht.2],hb⟩
 ·exact (ht.1 h).elim
theorem badC {aB aS aZ:Addr} {m:Mv} (hi:m.i64) (h:(firstBad 0 m.list).1≠0):BadC aB aS aZ m (firstBad 0 m.list):=fun W hE=>(mvCheck_any aB aS aZ m hi W hE).mono fun e w' ⟨⟨v,he,ht⟩,hb⟩=>by
 rcases ht with ht | ⟨_,_,pb,h1,h2,h3,h4⟩
 ·exact (h ht.1).elim
 ·exact ⟨⟨pb,h1,by rw [he,h2],h3,h4⟩,hb⟩
theorem bad_23 {l:List Fr} {i:Nat} (h:(firstBad i l).1≠0):(firstBad i l).1=2\/(firstBad i l).1=3:=by
 induction l generalizing i with
 | nil=>exact (h rfl).elim
 | cons x r ih=>
  unfold firstBad at h ⊢
  by_cases hx:chk x.n x.d=0
  ·rw [if_pos hx] at h ⊢;exact ih h
  ·rw [if_neg hx] at h ⊢;have:=chk_cases x.n x.d;simp only at h ⊢;omega
theorem then_badm (aB aS aZ:Addr) (m n:Mv) (r:Nat × Nat) (W:World) (hE:E3 aB aS aZ W) (HC:BadC aB aS aZ m r) :
  Calls Tryz.prog 122 #[mv m,mv n] W fun e w'=>(∃ pb,W.heap.size<=pb/\e=.returned (.tuple #[mv .zero,.iface 143 (.pointer (some ⟨pb,0,none⟩))])/\w'.cell? ⟨pb,0,none⟩=some (.int .i64 r.2)/\w'.cell? ⟨pb,1,none⟩=some (er aB aS aZ r.1))/\Below W.heap.size W w':=by
 have hF:∃ V,(((W.alloc (.cells #[.int .i64 m.a.n,.int .i64 m.a.d,.int .i64 m.b.n,.int .i64 m.b.d,.int .i64 m.c.n,.int .i64 m.c.d,.int .i64 m.d.n,.int .i64 m.d.d,.int .i64 m.e.n,.int .i64 m.e.d,.int .i64 m.f.n,.int .i64 m.f.d] 113)).alloc (.cells #[.int .i64 n.a.n,.int .i64 n.a.d,.int .i64 n.b.n,.int .i64 n.b.d,.int .i64 n.c.n,.int .i64 n.c.d,.int .i64 n.d.n,.int .i64 n.d.d,.int .i64 n.e.n,.int .i64 n.e.d,.int .i64 n.f.n,.int .i64 n.f.d] 113)).alloc (.cells #[.int .i64 0,.int .i64 0,.int .i64 0,.int .i64 0,.int .i64 0,.int .i64 0,.int .i64 0,.int .i64 0,.int .i64 0,.int .i64 0,.int .i64 0,.int .i64 0] 113))=V/\Blk V (W.heap.size+1+1) #[.int .i64 0,.int .i64 0,.int .i64 0,.int .i64 0,.int .i64 0,.int .i64 0,.int .i64 0,.int .i64 0,.int .i64 0,.int .i64 0,.int .i64 0,.int .i64 0] 113/\Below W.heap.size W V/\V.heap.size=W.heap.size+3:=⟨_,rfl,by simpa using Blk.new ((W.alloc (.cells #[.int .i64 m.a.n,.int .i64 m.a.d,.int .i64 m.b.n,.int .i64 m.b.d,.int .i64 m.c.n,.int .i64 m.c.d,.int .i64 m.d.n,.int .i64 m.d.d,.int .i64 m.e.n,.int .i64 m.e.d,.int .i64 m.f.n,.int .i64 m.f.d] 113)).alloc (.cells #[.int .i64 n.a.n,.int .i64 n.a.d,.int .i64 n.b.n,.int .i64 n.b.d,.int .i64 n.c.n,.int .i64 n.c.d,.int .i64 n.d.n,.int .i64 n.d.d,.int .i64 n.e.n,.int .i64 n.e.d,.int .i64 n.f.n,.int .i64 n.f.d] 113)) #[.int .i64 0,.int .i64 0,.int .i64 0,.int .i64 0,.int .i64 0,.int .i64 0,.int .i64 0,.int .i64 0,.int .i64 0,.int .i64 0,.int .i64 0,.int .i64 0] 113,(((Below.refl _ W).alloc Nat.le.refl _).alloc (by simp) _).alloc (by simp;omega) _,by simp⟩
 go_enter Tryz.func122,Tryz.ntmps122
 go_wp2_with (go_at_call 174;obtain ⟨V,hV,hB,hb,hz⟩:=hF;refine (HC _ (hV ▸ hE.below hb Nat.le.refl)).mono ?_;rw [hV];rintro e w1 ⟨⟨pb,hp,rfl,p0,p1⟩,hb1⟩;have hB1:=hB.below hb1 Nat.le.refl;have zc0:=hB1.cell 0 _ rfl;have zf0:=hB1.froz 0 _ rfl;have zc1:=hB1.cell 1 _ rfl;have zf1:=hB1.froz 1 _ rfl;have zc2:=hB1.cell 2 _ rfl;have zf2:=hB1.froz 2 _ rfl;have zc3:=hB1.cell 3 _ rfl;have zf3:=hB1.froz 3 _ rfl;have zc4:=hB1.cell 4 _ rfl;have zf4:=hB1.froz 4 _ rfl;have zc5:=hB1.cell 5 _ rfl;have zf5:=hB1.froz 5 _ rfl;have zc6:=hB1.cell 6 _ rfl;have zf6:=hB1.froz 6 _ rfl;have zc7:=hB1.cell 7 _ rfl;have zf7:=hB1.froz 7 _ rfl;have zc8:=hB1.cell 8 _ rfl;have zf8:=hB1.froz 8 _ rfl;have zc9:=hB1.cell 9 _ rfl;have zf9:=hB1.froz 9 _ rfl;have zc10:=hB1.cell 10 _ rfl;have zf10:=hB1.froz 10 _ rfl;have zc11:=hB1.cell 11 _ rfl;have zf11:=hB1.froz 11 _ rfl)
 have hz1:=hb1.size
 refine bodyPost_ret (v:=.tuple #[mv .zero,.iface 143 (.pointer (some ⟨pb,0,none⟩))]) (by simp [results,Tryz.results122,go_sem,Mv.zero,Fr.zero,zc0,zc1,zc2,zc3,zc4,zc5,zc6,zc7,zc8,zc9,zc10,zc11]) rfl ⟨⟨pb,by omega,rfl,?_,?_⟩,?_⟩
 ·exact (put_cell (p:=⟨pb,0,none⟩) (R:=W.heap.size+1+1) (by simp only;omega) [.int .i64 0,.int .i64 0,.int .i64 0,.int .i64 0,.int .i64 0,.int .i64 0,.int .i64 0,.int .i64 0,.int .i64 0,.int .i64 0,.int .i64 0,.int .i64 0] 0 w1).trans p0
 ·exact (put_cell (p:=⟨pb,1,none⟩) (R:=W.heap.size+1+1) (by simp only;omega) [.int .i64 0,.int .i64 0,.int .i64 0,.int .i64 0,.int .i64 0,.int .i64 0,.int .i64 0,.int .i64 0,.int .i64 0,.int .i64 0,.int .i64 0,.int .i64 0] 0 w1).trans p1
 ·exact put_below (R:=W.heap.size+1+1) (by omega) [.int .i64 0,.int .i64 0,.int .i64 0,.int .i64 0,.int .i64 0,.int .i64 0,.int .i64 0,.int .i64 0,.int .i64 0,.int .i64 0,.int .i64 0,.int .i64 0] 0 (hb.trans (hb1.mono (by omega)))
theorem then_badn (aB aS aZ:Addr) (m n:Mv) (r:Nat × Nat) (W:World) (hE:E3 aB aS aZ W) (HF:FineC aB aS aZ m) (HC:BadC aB aS aZ n r) :
  Calls Tryz.prog 122 #[mv m,mv n] W fun e w'=>(∃ pb,W.heap.size<=pb/\e=.returned (.tuple #[mv .zero,.iface 143 (.pointer (some ⟨pb,0,none⟩))])/\w'.cell? ⟨pb,0,none⟩=some (.int .i64 r.2)/\w'.cell? ⟨pb,1,none⟩=some (er aB aS aZ r.1))/\Below W.heap.size W w':=by
 have hF:∃ V,(((W.alloc (.cells #[.int .i64 m.a.n,.int .i64 m.a.d,.int .i64 m.b.n,.int .i64 m.b.d,.int .i64 m.c.n,.int .i64 m.c.d,.int .i64 m.d.n,.int .i64 m.d.d,.int .i64 m.e.n,.int .i64 m.e.d,.int .i64 m.f.n,.int .i64 m.f.d] 113)).alloc (.cells #[.int .i64 n.a.n,.int .i64 n.a.d,.int .i64 n.b.n,.int .i64 n.b.d,.int .i64 n.c.n,.int .i64 n.c.d,.int .i64 n.d.n,.int .i64 n.d.d,.int .i64 n.e.n,.int .i64 n.e.d,.int .i64 n.f.n,.int .i64 n.f.d] 113)).alloc (.cells #[.int .i64 0,.int .i64 0,.int .i64 0,.int .i64 0,.int .i64 0,.int .i64 0,.int .i64 0,.int .i64 0,.int .i64 0,.int .i64 0,.int .i64 0,.int .i64 0] 113))=V/\Blk V (W.heap.size+1+1) #[.int .i64 0,.int .i64 0,.int .i64 0,.int .i64 0,.int .i64 0,.int .i64 0,.int .i64 0,.int .i64 0,.int .i64 0,.int .i64 0,.int .i64 0,.int .i64 0] 113/\Blk V (W.heap.size+1) #[.int .i64 n.a.n,.int .i64 n.a.d,.int .i64 n.b.n,.int .i64 n.b.d,.int .i64 n.c.n,.int .i64 n.c.d,.int .i64 n.d.n,.int .i64 n.d.d,.int .i64 n.e.n,.int .i64 n.e.d,.int .i64 n.f.n,.int .i64 n.f.d] 113/\Below W.heap.size W V/\V.heap.size=W.heap.size+3:=⟨_,rfl,by simpa using Blk.new ((W.alloc (.cells #[.int .i64 m.a.n,.int .i64 m.a.d,.int .i64 m.b.n,.int .i64 m.b.d,.int .i64 m.c.n,.int .i64 m.c.d,.int .i64 m.d.n,.int .i64 m.d.d,.int .i64 m.e.n,.int .i64 m.e.d,.int .i64 m.f.n,.int .i64 m.f.d] 113)).alloc (.cells #[.int .i64 n.a.n,.int .i64 n.a.d,.int .i64 n.b.n,.int .i64 n.b.d,.int .i64 n.c.n,.int .i64 n.c.d,.int .i64 n.d.n,.int .i64 n.d.d,.int .i64 n.e.n,.int .i64 n.e.d,.int .i64 n.f.n,.int .i64 n.f.d] 113)) #[.int .i64 0,.int .i64 0,.int .i64 0,.int .i64 0,.int .i64 0,.int .i64 0,.int .i64 0,.int .i64 0,.int .i64 0,.int .i64 0,.int .i64 0,.int .i64 0] 113,(by simpa using Blk.new (W.alloc (.cells #[.int .i64 m.a.n,.int .i64 m.a.d,.int .i64 m.b.n,.int .i64 m.b.d,.int .i64 m.c.n,.int .i64 m.c.d,.int .i64 m.d.n,.int .i64 m.d.d,.int .i64 m.e.n,.int .i64 m.e.d,.int .i64 m.f.n,.int .i64 m.f.d] 113)) #[.int .i64 n.a.n,.int .i64 n.a.d,.int .i64 n.b.n,.int .i64 n.b.d,.int .i64 n.c.n,.int .i64 n.c.d,.int .i64 n.d.n,.int .i64 n.d.d,.int .i64 n.e.n,.int .i64 n.e.d,.int .i64 n.f.n,.int .i64 n.f.d] 113:Blk _ _ _ _).alloc _,(((Below.refl _ W).alloc Nat.le.refl _).alloc (by simp) _).alloc (by simp;omega) _,by simp⟩
 go_enter Tryz.func122,Tryz.ntmps122
 go_wp2_with (first | (go_at_call_of 174 (Value.int IntKind.i64 n.a.n);refine (HC _ (hE.below hb Nat.le.refl |>.below hb1 Nat.le.refl)).mono ?_;rintro e w2 ⟨⟨pb,hp,rfl,p0,p1⟩,hb2⟩;have hB2:=(hB.below hb1 Nat.le.refl).below hb2 Nat.le.refl;have zc0:=hB2.cell 0 _ rfl;have zf0:=hB2.froz 0 _ rfl;have zc1:=hB2.cell 1 _ rfl;have zf1:=hB2.froz 1 _ rfl;have zc2:=hB2.cell 2 _ rfl;have zf2:=hB2.froz 2 _ rfl;have zc3:=hB2.cell 3 _ rfl;have zf3:=hB2.froz 3 _ rfl;have zc4:=hB2.cell 4 _ rfl;have zf4:=hB2.froz 4 _ rfl;have zc5:=hB2.cell 5 _ rfl;have zf5:=hB2.froz 5 _ rfl;have zc6:=hB2.cell 6 _ rfl;have zf6:=hB2.froz 6 _ rfl;have zc7:=hB2.cell 7 _ rfl;have zf7:=hB2.froz 7 _ rfl;have zc8:=hB2.cell 8 _ rfl;have zf8:=hB2.froz 8 _ rfl;have zc9:=hB2.cell 9 _ rfl;have zf9:=hB2.froz 9 _ rfl;have zc10:=hB2.cell 10 _ rfl;have zf10:=hB2.froz 10 _ rfl;have zc11:=hB2.cell 11 _ rfl;have zf11:=hB2.froz 11 _ rfl) | (go_at_call_of 174 (Value.int IntKind.i64 m.a.n);obtain ⟨V,hV,hB,BN,hb,hz⟩:=hF;refine (HF _ (hV ▸ hE.below hb Nat.le.refl)).mono ?_;rw [hV];rintro e w1 ⟨rfl,hb1⟩;have BN1:=BN.below hb1 Nat.le.refl;have nc0:=BN1.cell 0 _ rfl;have nc1:=BN1.cell 1 _ rfl;have nc2:=BN1.cell 2 _ rfl;have nc3:=BN1.cell 3 _ rfl;have nc4:=BN1.cell 4 _ rfl;have nc5:=BN1.cell 5 _ rfl;have nc6:=BN1.cell 6 _ rfl;have nc7:=BN1.cell 7 _ rfl;have nc8:=BN1.cell 8 _ rfl;have nc9:=BN1.cell 9 _ rfl;have nc10:=BN1.cell 10 _ rfl;have nc11:=BN1.cell 11 _ rfl))
 have hz1:=hb1.size
 have hz2:=hb2.size
 refine bodyPost_ret (v:=.tuple #[mv .zero,.iface 143 (.pointer (some ⟨pb,0,none⟩))]) (by simp [results,Tryz.results122,go_sem,Mv.zero,Fr.zero,zc0,zc1,zc2,zc3,zc4,zc5,zc6,zc7,zc8,zc9,zc10,zc11]) rfl ⟨⟨pb,by omega,rfl,?_,?_⟩,?_⟩
 ·exact (put_cell (p:=⟨pb,0,none⟩) (R:=W.heap.size+1+1) (by simp only;omega) [.int .i64 0,.int .i64 0,.int .i64 0,.int .i64 0,.int .i64 0,.int .i64 0,.int .i64 0,.int .i64 0,.int .i64 0,.int .i64 0,.int .i64 0,.int .i64 0] 0 w2).trans p0
 ·exact (put_cell (p:=⟨pb,1,none⟩) (R:=W.heap.size+1+1) (by simp only;omega) [.int .i64 0,.int .i64 0,.int .i64 0,.int .i64 0,.int .i64 0,.int .i64 0,.int .i64 0,.int .i64 0,.int .i64 0,.int .i64 0,.int .i64 0,.int .i64 0] 0 w2).trans p1
 ·exact put_below (R:=W.heap.size+1+1) (by omega) [.int .i64 0,.int .i64 0,.int .i64 0,.int .i64 0,.int .i64 0,.int .i64 0,.int .i64 0,.int .i64 0,.int .i64 0,.int .i64 0,.int .i64 0,.int .i64 0] 0 ((hb.trans (hb1.mono (by omega))).trans (hb2.mono (by omega)))
end
section
theorem whole_ok {n:Int} (h:n.natAbs<=1073741824):(Fr.whole n).ok:=chk_zero.2 ⟨by simp [Fr.whole],by simp [gcdI,Fr.whole],by simpa [Fr.whole] using h,by simp [Fr.whole]⟩
theorem doF_some {op:Op4} {x y z:Fr} (h:op x.n x.d y.n y.d=⟨z.n,z.d,0⟩):doF op 0 x y=(z,0):=by unfold doF;rw [if_pos rfl,h]
theorem one_mul' {x:Fr} (h:x.ok):doF mul 0 (.whole 1) x=(x,0):=doF_some (mul_some.2 ⟨whole_ok (by decide),h,h,by simp [Fr.whole]⟩)
theorem mul_one' {x:Fr} (h:x.ok):doF mul 0 x (.whole 1)=(x,0):=doF_some (mul_some.2 ⟨h,whole_ok (by decide),h,by simp [Fr.whole]⟩)
theorem zero_mul' {x:Fr} (h:x.ok):doF mul 0 (.whole 0) x=(.whole 0,0):=doF_some (mul_some.2 ⟨whole_ok (by decide),h,whole_ok (by decide),by simp [Fr.whole]⟩)
theorem mul_zero0 {x:Fr} (h:x.ok):doF mul 0 x (.whole 0)=(.whole 0,0):=doF_some (mul_some.2 ⟨h,whole_ok (by decide),whole_ok (by decide),by simp [Fr.whole]⟩)
theorem zero_add' {x:Fr} (h:x.ok):doF add 0 (.whole 0) x=(x,0):=doF_some (add_some.2 ⟨whole_ok (by decide),h,h,by simp [Fr.whole]⟩)
theorem add_zero' {x:Fr} (h:x.ok):doF add 0 x (.whole 0)=(x,0):=doF_some (add_some.2 ⟨h,whole_ok (by decide),h,by simp [Fr.whole]⟩)
theorem one_ok:Mv.one.ok:=⟨whole_ok (by decide),whole_ok (by decide),whole_ok (by decide),whole_ok (by decide),whole_ok (by decide),whole_ok (by decide)⟩
theorem z_ok:(Fr.whole 0).ok:=whole_ok (by decide)
theorem dot_10 {x y:Fr} (hx:x.ok) (hy:y.ok):dotF 0 (.whole 1) x (.whole 0) y=(x,0):=by unfold dotF;rw [one_mul' hx];simp only;rw [zero_mul' hy];simp only;exact add_zero' hx
theorem dot_01 {x y:Fr} (hx:x.ok) (hy:y.ok):dotF 0 (.whole 0) x (.whole 1) y=(y,0):=by unfold dotF;rw [zero_mul' hx];simp only;rw [one_mul' hy];simp only;exact zero_add' hy
theorem dot_x1 {a b:Fr} (ha:a.ok) (hb:b.ok):dotF 0 a (.whole 1) b (.whole 0)=(a,0):=by unfold dotF;rw [mul_one' ha];simp only;rw [mul_zero0 hb];simp only;exact add_zero' ha
theorem dot_y1 {a b:Fr} (ha:a.ok) (hb:b.ok):dotF 0 a (.whole 0) b (.whole 1)=(b,0):=by unfold dotF;rw [mul_zero0 ha];simp only;rw [mul_one' hb];simp only;exact zero_add' hb
theorem dot_00 {a b:Fr} (ha:a.ok) (hb:b.ok):dotF 0 a (.whole 0) b (.whole 0)=(.whole 0,0):=by unfold dotF;rw [mul_zero0 ha];simp only;rw [mul_zero0 hb];simp only;exact zero_add' z_ok
theorem turned_one {p:Pt} (h:p.ok):turnedF 0 .one p=(p,0):=by
 unfold turnedF Mv.one;simp only;rw [dot_10 h.1 h.2];simp only;rw [dot_01 h.1 h.2]
theorem moved_one {p:Pt} (h:p.ok):movedF 0 .one p=(p,0):=by
 unfold movedF;rw [turned_one h];unfold Mv.one;simp only;rw [add_zero' h.1];simp only;rw [add_zero' h.2]
theorem turned_x {m:Mv} (h:m.ok):turnedF 0 m ⟨.whole 1,.whole 0⟩=(⟨m.a,m.b⟩,0):=by
 unfold turnedF;simp only;rw [dot_x1 h.1 h.2.2.1];simp only;rw [dot_x1 h.2.1 h.2.2.2.1]
theorem turned_y {m:Mv} (h:m.ok):turnedF 0 m ⟨.whole 0,.whole 1⟩=(⟨m.c,m.d⟩,0):=by
 unfold turnedF;simp only;rw [dot_y1 h.1 h.2.2.1];simp only;rw [dot_y1 h.2.1 h.2.2.2.1]
theorem moved_0 {m:Mv} (h:m.ok):movedF 0 m ⟨.whole 0,.whole 0⟩=(⟨m.e,m.f⟩,0):=by
 unfold movedF turnedF;simp only;rw [dot_00 h.1 h.2.2.1];simp only;rw [dot_00 h.2.1 h.2.2.2.1];simp only;rw [zero_add' h.2.2.2.2.1];simp only;rw [zero_add' h.2.2.2.2.2]
theorem thenS_one {m:Mv} (h:m.ok):thenS m .one=(m,0):=by
 unfold thenS;rw [turned_one ⟨h.1,h.2.1⟩];simp only;rw [turned_one ⟨h.2.2.1,h.2.2.2.1⟩];simp only;rw [moved_one ⟨h.2.2.2.2.1,h.2.2.2.2.2⟩]
theorem one_thenS {m:Mv} (h:m.ok):thenS .one m=(m,0):=by
 unfold thenS
 rw [show (⟨Mv.one.a,Mv.one.b⟩:Pt)=⟨.whole 1,.whole 0⟩ from rfl,show (⟨Mv.one.c,Mv.one.d⟩:Pt)=⟨.whole 0,.whole 1⟩ from rfl,show (⟨Mv.one.e,Mv.one.f⟩:Pt)=⟨.whole 0,.whole 0⟩ from rfl,turned_x h];simp only;rw [turned_y h];simp only;rw [moved_0 h]
theorem bad_ok {m:Mv} (h:m.ok):(firstBad 0 m.list).1=0:=by
 rw [firstBad_none]
 intro y hy
 simp only [Mv.list,List.mem_cons,List.not_mem_nil,or_false] at hy
 obtain ⟨h1,h2,h3,h4,h5,h6⟩:=h
 rcases hy with rfl | rfl | rfl | rfl | rfl | rfl <;> assumption
theorem badp_ok {p:Pt} (h:p.ok):(firstBad 6 p.list).1=0:=by
 rw [firstBad_none]
 intro y hy
 simp only [Pt.list,List.mem_cons,List.not_mem_nil,or_false] at hy
 rcases hy with rfl | rfl
 ·exact h.1
 ·exact h.2
theorem thenR_ok {m n x:Mv} (hm:m.ok) (hn:n.ok) (h:thenS m n=(x,0)):thenR m n=(x,.no):=by
 unfold thenR;rw [if_neg (by simp [bad_ok hm]),if_neg (by simp [bad_ok hn]),h];simp
theorem atR_ok {m:Mv} {p q:Pt} (hm:m.ok) (hp:p.ok) (h:movedF 0 m p=(q,0)):atR m p=(q,.no):=by
 unfold atR;rw [if_neg (by simp [bad_ok hm]),if_neg (by simp [badp_ok hp]),h];simp
theorem thenR_no {m n x:Mv} (h:thenR m n=(x,.no)):m.ok/\n.ok/\thenS m n=(x,0):=by
 unfold thenR at h
 by_cases h1:(firstBad 0 m.list).1=0
 ·rw [if_neg (by simp [h1])] at h
  by_cases h2:(firstBad 0 n.list).1=0
  ·rw [if_neg (by simp [h2])] at h
   by_cases h3:(thenS m n).2=0
   ·rw [if_pos h3] at h
    exact ⟨mv_ok h1,mv_ok h2,Prod.ext (Prod.mk.inj h).1 h3⟩
   ·rw [if_neg h3] at h;cases h
  ·rw [if_pos h2] at h;cases h
 ·rw [if_pos h1] at h;cases h
theorem atR_no {m:Mv} {p q:Pt} (h:atR m p=(q,.no)):m.ok/\p.ok/\movedF 0 m p=(q,0):=by
 unfold atR at h
 by_cases h1:(firstBad 0 m.list).1=0
 ·rw [if_neg (by simp [h1])] at h
  by_cases h2:(firstBad 6 p.list).1=0
  ·rw [if_neg (by simp [h2])] at h
   by_cases h3:(movedF 0 m p).2=0
   ·rw [if_pos h3] at h
    exact ⟨mv_ok h1,pt_ok h2,Prod.ext (Prod.mk.inj h).1 h3⟩
   ·rw [if_neg h3] at h;cases h
  ·rw [if_pos h2] at h;cases h
 ·rw [if_pos h1] at h;cases h
end
section
def opO (op:Op4) (x y:Fr):Option Fr:=if (op x.n x.d y.n y.d).c=0 then some ⟨(op x.n x.d y.n y.d).n,(op x.n x.d y.n y.d).d⟩ else none
def dotO (a b c d e:Fr):Option Fr:=(opO mul a b).bind fun x=>(opO mul c d).bind fun y=>(opO add x y).bind fun s=>opO add s e
def goesO (m:Mv) (p:Pt):Option Pt:=(dotO m.a p.x m.c p.y m.e).bind fun x=>(dotO m.b p.x m.d p.y m.f).bind fun y=>some ⟨x,y⟩
theorem opO_iff {op:Op4} {x y z:Fr}:opO op x y=some z↔doF op 0 x y=(z,0):=by
 unfold opO doF
 rw [if_pos rfl]
 by_cases h:(op x.n x.d y.n y.d).c=0
 ·rw [if_pos h,h];simp
 ·rw [if_neg h];simp [h]
theorem doF_state {op:Op4} {c:Nat} {x y z:Fr} (h:doF op c x y=(z,0)):c=0:=by
 unfold doF at h
 by_cases hc:c=0
 ·exact hc
 ·rw [if_neg hc] at h;exact congrArg Prod.snd h
theorem dotF_iff {c:Nat} {a x b y s:Fr}:dotF c a x b y=(s,0)↔c=0/\∃ u v,opO mul a x=some u/\opO mul b y=some v/\opO add u v=some s:=by
 constructor
 ·intro h
  unfold dotF at h
  obtain ⟨u,hu⟩:∃ u,doF mul c a x=u:=⟨_,rfl⟩
  rw [hu] at h
  obtain ⟨u1,u2⟩:=u
  simp only at h
  obtain ⟨v,hv⟩:∃ v,doF mul u2 b y=v:=⟨_,rfl⟩
  rw [hv] at h
  obtain ⟨v1,v2⟩:=v
  simp only at h
  obtain rfl:=doF_state h
  obtain rfl:=doF_state hv
  obtain rfl:=doF_state hu
  exact ⟨rfl,u1,v1,opO_iff.2 hu,opO_iff.2 hv,opO_iff.2 h⟩
 ·rintro ⟨rfl,u,v,h1,h2,h3⟩
  unfold dotF
  rw [opO_iff.1 h1];simp only
  rw [opO_iff.1 h2];simp only
  exact opO_iff.1 h3
theorem bind_iff {α β:Type} {o:Option α} {f:α->Option β} {z:β}:o.bind f=some z↔∃ a,o=some a/\f a=some z:=by cases o <;> simp
theorem dotO_iff {a x b y e z:Fr}:dotO a x b y e=some z↔∃ s,dotF 0 a x b y=(s,0)/\doF add 0 s e=(z,0):=by
 unfold dotO
 constructor
 ·intro h
  obtain ⟨u,h1,h⟩:=bind_iff.1 h
  obtain ⟨v,h2,h⟩:=bind_iff.1 h
  obtain ⟨s,h3,h⟩:=bind_iff.1 h
  exact ⟨s,dotF_iff.2 ⟨rfl,u,v,h1,h2,h3⟩,opO_iff.1 h⟩
 ·rintro ⟨s,h,h4⟩
  obtain ⟨_,u,v,h1,h2,h3⟩:=dotF_iff.1 h
  rw [h1];simp only [Option.bind_some]
  rw [h2];simp only [Option.bind_some]
  rw [h3];simp only [Option.bind_some]
  exact opO_iff.2 h4
theorem dotF_state {c:Nat} {a x b y s:Fr} (h:dotF c a x b y=(s,0)):c=0:=(dotF_iff.1 h).1
theorem turnedF_iff {c:Nat} {m:Mv} {p q:Pt}:turnedF c m p=(q,0)↔c=0/\dotF 0 m.a p.x m.c p.y=(q.x,0)/\dotF 0 m.b p.x m.d p.y=(q.y,0):=by
 unfold turnedF
 obtain ⟨u,hu⟩:∃ u,dotF c m.a p.x m.c p.y=u:=⟨_,rfl⟩
 obtain ⟨u1,u2⟩:=u
 rw [hu];simp only
 obtain ⟨v,hv⟩:∃ v,dotF u2 m.b p.x m.d p.y=v:=⟨_,rfl⟩
 obtain ⟨v1,v2⟩:=v
 rw [hv];simp only
 constructor
 ·intro h
  obtain rfl:v2=0:=congrArg Prod.snd h
  obtain rfl:=dotF_state hv
  obtain rfl:=dotF_state hu
  have h1:=congrArg Prod.fst h
  simp only at h1
  subst h1
  exact ⟨rfl,hu,hv⟩
 ·rintro ⟨rfl,h1,h2⟩
  rw [h1] at hu
  cases hu
  rw [h2] at hv
  cases hv
  rfl
theorem movedF_iff {c:Nat} {m:Mv} {p q:Pt}:movedF c m p=(q,0)↔c=0/\goesO m p=some q:=by
 unfold movedF
 obtain ⟨t,ht⟩:∃ t,turnedF c m p=t:=⟨_,rfl⟩
 obtain ⟨t1,t2⟩:=t
 rw [ht];simp only
 obtain ⟨u,hu⟩:∃ u,doF add t2 t1.x m.e=u:=⟨_,rfl⟩
 obtain ⟨u1,u2⟩:=u
 rw [hu];simp only
 obtain ⟨v,hv⟩:∃ v,doF add u2 t1.y m.f=v:=⟨_,rfl⟩
 obtain ⟨v1,v2⟩:=v
 rw [hv];simp only
 unfold goesO
 constructor
 ·intro h
  obtain rfl:v2=0:=congrArg Prod.snd h
  obtain rfl:=doF_state hv
  obtain rfl:=doF_state hu
  have h1:=congrArg Prod.fst h
  simp only at h1
  subst h1
  obtain ⟨rfl,k1,k2⟩:=turnedF_iff.1 ht
  refine ⟨rfl,?_⟩
  rw [dotO_iff.2 ⟨_,k1,hu⟩];simp only [Option.bind_some]
  rw [dotO_iff.2 ⟨_,k2,hv⟩];rfl
 ·rintro ⟨rfl,h⟩
  obtain ⟨x,h1,h⟩:=bind_iff.1 h
  obtain ⟨y,h2,h⟩:=bind_iff.1 h
  cases h
  obtain ⟨s1,k1,e1⟩:=dotO_iff.1 h1
  obtain ⟨s2,k2,e2⟩:=dotO_iff.1 h2
  have ht':=turnedF_iff.2 ⟨rfl,show dotF 0 m.a p.x m.c p.y=((⟨s1,s2⟩:Pt).x,0) from k1,show dotF 0 m.b p.x m.d p.y=((⟨s1,s2⟩:Pt).y,0) from k2⟩
  rw [ht'] at ht
  cases ht
  rw [e1] at hu
  cases hu
  rw [e2] at hv
  cases hv
  rfl
end
end Go.Proofs.YtgphclgmmocdhaaGreatDoor

/- Parts of the proof. -/
import Derived.Test.YtecneflbncjhpaaGreatDoorQp7
namespace Go.Proofs.YtecneflbncjhpaaGreatDoor
open Go.Proofs.Tryz
set_option maxHeartbeats 8000000
section
open Go.RowKit
theorem a3L {b Q:Nat}{W A B:ag}{m:Mv}{q:Pt}(hu:dA b A B)(h1:W.heap.size≠b)(h3:Q≠b)(h:(fun w'=>w'.cell? ⟨W.heap.size,8,none⟩=some (aa m.e.n)/\w'.cell? ⟨W.heap.size,9,none⟩=some (aa m.e.d)/\w'.cell? ⟨W.heap.size,10,none⟩=some (aa m.f.n)/\w'.cell? ⟨W.heap.size,11,none⟩=some (aa m.f.d)/\w'.cell? (ak Q 0)=some (aa q.x.n)/\w'.cell? (ak Q 1)=some (aa q.x.d)/\w'.cell? (ak Q 2)=some (aa q.y.n)/\w'.cell? (ak Q 3)=some (aa q.y.d)) A):(fun w'=>w'.cell? ⟨W.heap.size,8,none⟩=some (aa m.e.n)/\w'.cell? ⟨W.heap.size,9,none⟩=some (aa m.e.d)/\w'.cell? ⟨W.heap.size,10,none⟩=some (aa m.f.n)/\w'.cell? ⟨W.heap.size,11,none⟩=some (aa m.f.d)/\w'.cell? (ak Q 0)=some (aa q.x.n)/\w'.cell? (ak Q 1)=some (aa q.x.d)/\w'.cell? (ak Q 2)=some (aa q.y.n)/\w'.cell? (ak Q 3)=some (aa q.y.d)) B:=by
 obtain⟨k0,k1,k2,k3,k4,k5,k6,k7⟩:=h;exact⟨hu.cell k0 h1,hu.cell k1 h1,hu.cell k2 h1,hu.cell k3 h1,hu.cell k4 h3,hu.cell k5 h3,hu.cell k6 h3,hu.cell k7 h3⟩
theorem a4W {Q R:Nat}{W w:ag}{m:Mv}{q:Pt}{v1 v2 v3 v4:ah}(h:(fun w'=>w'.cell? ⟨W.heap.size,8,none⟩=some (aa m.e.n)/\w'.cell? ⟨W.heap.size,9,none⟩=some (aa m.e.d)/\w'.cell? ⟨W.heap.size,10,none⟩=some (aa m.f.n)/\w'.cell? ⟨W.heap.size,11,none⟩=some (aa m.f.d)/\w'.cell? (ak Q 0)=some (aa q.x.n)/\w'.cell? (ak Q 1)=some (aa q.x.d)/\w'.cell? (ak Q 2)=some (aa q.y.n)/\w'.cell? (ak Q 3)=some (aa q.y.d)) w)(h1:R≠W.heap.size)(h3:R≠Q):(fun w'=>w'.cell? ⟨W.heap.size,8,none⟩=some (aa m.e.n)/\w'.cell? ⟨W.heap.size,9,none⟩=some (aa m.e.d)/\w'.cell? ⟨W.heap.size,10,none⟩=some (aa m.f.n)/\w'.cell? ⟨W.heap.size,11,none⟩=some (aa m.f.d)/\w'.cell? (ak Q 0)=some (aa q.x.n)/\w'.cell? (ak Q 1)=some (aa q.x.d)/\w'.cell? (ak Q 2)=some (aa q.y.n)/\w'.cell? (ak Q 3)=some (aa q.y.d)) ((((w.setCell ⟨R,0,none⟩ v1).setCell ⟨R,1,none⟩ v2).setCell ⟨R,2,none⟩ v3).setCell ⟨R,3,none⟩ v4):=by
 obtain⟨k0,k1,k2,k3,k4,k5,k6,k7⟩:=h;exact⟨(aO _ _ _ _ h1).trans ((aO _ _ _ _ h1).trans ((aO _ _ _ _ h1).trans ((aO _ _ _ _ h1).trans k0))),(aO _ _ _ _ h1).trans ((aO _ _ _ _ h1).trans ((aO _ _ _ _ h1).trans ((aO _ _ _ _ h1).trans k1))),(aO _ _ _ _ h1).trans ((aO _ _ _ _ h1).trans ((aO _ _ _ _ h1).trans ((aO _ _ _ _ h1).trans k2))),(aO _ _ _ _ h1).trans ((aO _ _ _ _ h1).trans ((aO _ _ _ _ h1).trans ((aO _ _ _ _ h1).trans k3))),(aO _ _ _ _ h3).trans ((aO _ _ _ _ h3).trans ((aO _ _ _ _ h3).trans ((aO _ _ _ _ h3).trans k4))),(aO _ _ _ _ h3).trans ((aO _ _ _ _ h3).trans ((aO _ _ _ _ h3).trans ((aO _ _ _ _ h3).trans k5))),(aO _ _ _ _ h3).trans ((aO _ _ _ _ h3).trans ((aO _ _ _ _ h3).trans ((aO _ _ _ _ h3).trans k6))),(aO _ _ _ _ h3).trans ((aO _ _ _ _ h3).trans ((aO _ _ _ _ h3).trans ((aO _ _ _ _ h3).trans k7)))⟩
theorem Tm (aB aS aZ:Addr)(w0:ag)(b:Nat)(m:Mv)(p q:Pt)(r1 r2:Fr)(c c6 c7 c8:Nat)(W:ag)(h:Wk aB aS aZ w0 b c W)
  (HT:∀W,Wk aB aS aZ w0 b c W->au 201 #[ay b,mv m,pv p] W fun e w'=>e=.returned (.agg #[aa q.x.n,aa q.x.d,aa q.y.n,aa q.y.d])/\Wk aB aS aZ w0 b c6 w'/\dA b W w')
  (D7:Tk aB aS aZ w0 b 237 c6 q.x m.e r1 c7) (D8:Tk aB aS aZ w0 b 237 c7 q.y m.f r2 c8):
  au 202 #[ay b,mv m,pv p] W fun e w'=>e=.returned (.agg #[aa r1.n,aa r1.d,aa r2.n,aa r2.d])/\Wk aB aS aZ w0 b c8 w'/\dA b W w':=by
 have hlt:=aF h.cell;simp only at hlt;have nb0:W.heap.size≠b:=by omega
 have hw0:=h.hb.size;have hF:∃V,(((W.alloc (.cells (mA m) 125)).alloc (.cells #[aa p.x.n,aa p.x.d,aa p.y.n,aa p.y.d] 168)).alloc (.cells #[aa 0,aa 0,aa 0,aa 0] 168))=V/\Head W m p V/\Wk aB aS aZ w0 b c V/\dA b W V:=⟨_,rfl,Head.new W m p,((h.alloc _).alloc _).alloc _,(((dA.refl b W).alloc _).alloc _).alloc _⟩;go_enter func202,ntmps202;go_wp2_with(go_at_call 201;obtain⟨V,hV,hH,HK,HU⟩:=hF;refine(HT _ (hV▸HK)).mono ?_;rw[hV];rintro e wt ⟨rfl,hk,hu⟩);have H0:=(hH.upto hu hlt).upto ((dA.refl b wt).alloc (.cells #[aa q.x.n,aa q.x.d,aa q.y.n,aa q.y.d] 168)) hlt|>.upto (dA.drew b _ 1) hlt
 have hj0:=(hk.alloc (.cells #[aa q.x.n,aa q.x.d,aa q.y.n,aa q.y.d] 168)).drew 1;have nbq:=hk.ne;have U0:=((HU.trans hu).alloc (.cells #[aa q.x.n,aa q.x.d,aa q.y.n,aa q.y.d] 168)).trans (dA.drew b _ 1);have hsz:=(hH.upto hu hlt).sz;have hS:(fun w'=>w'.cell? ⟨W.heap.size,8,none⟩=some (aa m.e.n)/\w'.cell? ⟨W.heap.size,9,none⟩=some (aa m.e.d)/\w'.cell? ⟨W.heap.size,10,none⟩=some (aa m.f.n)/\w'.cell? ⟨W.heap.size,11,none⟩=some (aa m.f.d)/\w'.cell? ⟨wt.heap.size,0,none⟩=some (aa q.x.n)/\w'.cell? ⟨wt.heap.size,1,none⟩=some (aa q.x.d)/\w'.cell? ⟨wt.heap.size,2,none⟩=some (aa q.y.n)/\w'.cell? ⟨wt.heap.size,3,none⟩=some (aa q.y.d)) ((wt.alloc (.cells #[aa q.x.n,aa q.x.d,aa q.y.n,aa q.y.d] 168)).drewN 1):=⟨H0.c8,H0.c9,H0.c10,H0.c11,bD rfl rfl,bD rfl rfl,bD rfl rfl,bD rfl rfl⟩;have nr1:W.heap.size+1+1≠W.heap.size:=by omega
 have nr2:W.heap.size+1+1≠wt.heap.size:=by omega
 go_region_held3 (fun w'=>w'.cell? ⟨W.heap.size,8,none⟩=some (aa m.e.n)/\w'.cell? ⟨W.heap.size,9,none⟩=some (aa m.e.d)/\w'.cell? ⟨W.heap.size,10,none⟩=some (aa m.f.n)/\w'.cell? ⟨W.heap.size,11,none⟩=some (aa m.f.d)/\w'.cell? ⟨wt.heap.size,0,none⟩=some (aa q.x.n)/\w'.cell? ⟨wt.heap.size,1,none⟩=some (aa q.x.d)/\w'.cell? ⟨wt.heap.size,2,none⟩=some (aa q.y.n)/\w'.cell? ⟨wt.heap.size,3,none⟩=some (aa q.y.d)) (first|assumption|exact a4W (by assumption) nr1 nr2|go_keep) (first|(go_at_call_of 247 m.f.n;refine(D8 _ hj1).mono ?_;rintro e w2 ⟨rfl,hj2,hu2⟩;have hs2:=a3L hu2 nb0 nbq (by assumption);have U2:=U1.trans hu2;have H2:=H1.upto hu2 hlt;obtain⟨e0,e1,e2,e3⟩:=And.intro H2.r0 (And.intro H2.r1 (And.intro H2.r2 H2.r3));obtain⟨f0,f1,f2,f3⟩:=And.intro H2.f0 (And.intro H2.f1 (And.intro H2.f2 H2.f3)))|(go_at_call_of 247 m.e.n;refine(D7 _ hj0).mono ?_;rintro e w1 ⟨rfl,hj1,hu1⟩;have hs1:=a3L hu1 nb0 nbq (by assumption);have U1:=U0.trans hu1;have H1:=H0.upto hu1 hlt;skip))
 go_wp2;refine bodyPost_ret (v:=.agg #[aa r1.n,aa r1.d,aa r2.n,aa r2.d]) (by simp[results,results202,go_sem,e0,e1,e2,e3]) rfl ⟨rfl,?_,?_⟩
 ·have hq:w0.heap.size<=W.heap.size+1+1:=by omega
  have hn:W.heap.size+1+1≠b:=by omega
  exact(((hj2.store hq hn _ _).store hq hn _ _).store hq hn _ _).store hq hn _ _
 ·have hq:W.heap.size<=W.heap.size+1+1:=by omega
  exact(((U2.store hq _ _).store hq _ _).store hq _ _).store hq _ _
theorem jy {x:Fr}(h:x.ok):x.i64:=gV h
theorem JQ:Fr.zero.i64:=⟨⟨by decide,by decide⟩,⟨by decide,by decide⟩⟩
theorem Good.i64 {op:Op4}{F:Rat->Rat->Rat}(g:Good op F){c:Nat}{x y:Fr}(hx:c=0->x.ok)(hy:c=0->y.ok):(um op c x y).1.i64:=by
 by_cases hc:c=0
 ·subst hc;rcases g.two x y (hx rfl) (hy rfl) with h|h
  ·have:=g.val x y (op x.n x.d y.n y.d).n (op x.n x.d y.n y.d).d (by rw[<- h]);simp only[um,if_pos];exact jy this.2.2.1
  ·simp only[um,if_pos,h];exact JQ
 ·simp only[um,if_neg hc];exact JQ
theorem Good.code {op:Op4}{F:Rat->Rat->Rat}(g:Good op F){x y:Fr}(hx:x.ok)(hy:y.ok):(op x.n x.d y.n y.d).c=0\/(op x.n x.d y.n y.d).c=2:=by
 rcases g.two x y hx hy with h|h
 ·exact .inl h
 ·exact .inr (by rw[h])
theorem Fx {aB aS aZ:Addr}{w0:ag}{b c:Nat}{a x d y:Fr}(hc:c=0\/c=2)(ha:a.ok)(hx:x.ok)(hd:d.ok)(hy:y.ok):
  ∃x1 c1 x2 c2,Tk aB aS aZ w0 b 248 c a x x1 c1/\Tk aB aS aZ w0 b 248 c1 d y x2 c2/\Tk aB aS aZ w0 b 237 c2 x1 x2 (xK c a x d y).1 (xK c a x d y).2:=by
 obtain⟨h1,k1⟩:=iy.step hc (fun _=>ha) (fun _=>hx);obtain⟨h2,k2⟩:=iy.step h1 (fun _=>hd) (fun _=>hy);refine⟨_,_,_,_,Qr hc (jy ha) (jy hx) (fun _=>iy.code ha hx),Qr h1 (jy hd) (jy hy) (fun _=>iy.code hd hy),?_⟩;exact GU h2 (iy.i64 (fun _=>ha) (fun _=>hx)) (iy.i64 (fun _=>hd) (fun _=>hy)) (fun e=>jM.code (k1 (k2 e).1).2.1 (k2 e).2.1)
theorem uY {aB aS aZ:Addr}{w0:ag}{b c:Nat}{m:Mv}{p:Pt}(hc:c=0\/c=2)(hm:m.ok)(hp:p.ok)(W:ag)(h:Wk aB aS aZ w0 b c W):
  au 201 #[ay b,mv m,pv p] W fun e w'=>e=.returned (pv (bN c m p).1)/\Wk aB aS aZ w0 b (bN c m p).2 w'/\dA b W w':=by
 obtain⟨x1,c1,x2,c2,D1,D2,D3⟩:=Fx (aB:=aB) (aS:=aS) (aZ:=aZ) (w0:=w0) (b:=b) hc hm.1 hp.1 hm.2.2.1 hp.2;obtain⟨y1,c4,y2,c5,D4,D5,D6⟩:=Fx (aB:=aB) (aS:=aS) (aZ:=aZ) (w0:=w0) (b:=b) (wC hc hm.1 hp.1 hm.2.2.1 hp.2).1 hm.2.1 hp.1 hm.2.2.2.1 hp.2;exact O0 aB aS aZ w0 b m p x1 x2 _ y1 y2 _ c c1 c2 _ c4 c5 _ W h D1 D2 D3 D4 D5 D6
theorem xP {aB aS aZ:Addr}{w0:ag}{b c:Nat}{m:Mv}{p:Pt}(hc:c=0\/c=2)(hm:m.ok)(hp:p.ok)(W:ag)(h:Wk aB aS aZ w0 b c W):
  au 202 #[ay b,mv m,pv p] W fun e w'=>e=.returned (pv (dm c m p).1)/\Wk aB aS aZ w0 b (dm c m p).2 w'/\dA b W w':=by
 obtain⟨h1,k1⟩:=jA hc hm hp;have HT:=fun W h=>uY (aB:=aB) (aS:=aS) (aZ:=aZ) (w0:=w0) (b:=b) hc hm hp W h;have hi:(bN c m p).1.x.i64/\(bN c m p).1.y.i64:=by
  obtain⟨g1,g2⟩:=iy.step hc (fun _=>hm.1) (fun _=>hp.1);obtain⟨g3,g4⟩:=iy.step g1 (fun _=>hm.2.2.1) (fun _=>hp.2);obtain⟨g5,_⟩:=wC hc hm.1 hp.1 hm.2.2.1 hp.2;obtain⟨g7,g8⟩:=iy.step g5 (fun _=>hm.2.1) (fun _=>hp.1);obtain⟨_,g9⟩:=iy.step g7 (fun _=>hm.2.2.2.1) (fun _=>hp.2);exact⟨jM.i64 (fun e=>(g2 (g4 e).1).2.1) (fun e=>(g4 e).2.1),jM.i64 (fun e=>(g8 (g9 e).1).2.1) (fun e=>(g9 e).2.1)⟩
 unfold dm;generalize bN c m p=t at h1 k1 HT hi⊢;obtain⟨h2,k2⟩:=jM.step h1 (x:=t.1.x) (y:=m.e) (fun e=>(k1 e).2.1.1) (fun _=>hm.2.2.2.2.1);exact Tm aB aS aZ w0 b m p t.1 _ _ c t.2 _ _ W h HT (GU h1 hi.1 (jy hm.2.2.2.2.1) (fun e=>jM.code (k1 e).2.1.1 hm.2.2.2.2.1)) (GU h2 hi.2 (jy hm.2.2.2.2.2) (fun e=>jM.code (k1 (k2 e).1).2.1.2 hm.2.2.2.2.2))
theorem Tn {aB aS aZ:Addr}{w0:ag}{b:Nat}(m:Mv)(W:ag)(h:Wk aB aS aZ w0 b 0 W):
  au 203 #[ay b,mv m] W fun e w'=>e=.returned (.tuple #[mv m,.nilIface])/\Below W.heap.size W w':=by
 have k1:=(h.alloc (.cells (mA m) 125)).alloc (.cells zA 125);have k2:=k1.cell;rw[qM] at k2;clear k1;go_enter func203,ntmps203;go_wp2;refine bodyPost_ret (v:=.tuple #[mv m,.nilIface]) (by simp[results,results203,go_sem]) rfl ⟨rfl,?_⟩;exact((aG _ W).alloc ai _).alloc (by simp) _
theorem O3 {aB aS aZ:Addr}{w0:ag}{b:Nat}(m:Mv)(W:ag)(h:Wk aB aS aZ w0 b 2 W):
  au 203 #[ay b,mv m] W fun e w'=>e=.returned (.tuple #[mv .zero,er aB aS aZ 2])/\Below W.heap.size W w':=by
 have k1:=(h.alloc (.cells (mA m) 125)).alloc (.cells zA 125);have k2:=k1.cell;rw[WN] at k2;have hlt:=aF h.cell;simp only at hlt;clear k1;go_enter func203,ntmps203;go_wp2;go_region;go_wp2;refine bodyPost_ret (v:=.tuple #[mv .zero,.iface 401 (.pointer (some aB))]) (by simp[results,results203,go_sem,Mv.zero,Fr.zero]) rfl ⟨rfl,?_⟩;exact below_drewN (((aG _ W).alloc ai _).alloc (by simp) _) 1
structure dY (w:ag)(R:Nat)(cs:Array ah)(t:TypeId):Prop where
 h:w.heap[R]? =some (.cells cs t)
theorem dY.cell {w:ag}{R:Nat}{cs:Array ah}{t:TypeId}(h:dY w R cs t)(i:Nat)(v:ah)(hv:cs[i]? =some v):w.cell? (ak R i)=some v:=by simp[World.cell?,h.h,hv]
theorem dY.di {w:ag}{R:Nat}{cs:Array ah}{t:TypeId}(h:dY w R cs t)(i:Nat)(v:ah)(hv:cs[i]? =some v):w.frozen? ⟨R,i,none⟩=false:=by
 have:=h.cell i v hv;simp[World.frozen?,h.h]
theorem dY.six {w:ag}{R:Nat}{t:TypeId}{a0 a1 a2 a3 a4 a5 a6 a7 a8 a9 Qs Qu:ah}(h:dY w R #[a0,a1,a2,a3,a4,a5,a6,a7,a8,a9,Qs,Qu] t):w.cell? (ak R 0)=some a0/\w.frozen? ⟨R,0,none⟩=false/\w.cell? (ak R 1)=some a1/\w.frozen? ⟨R,1,none⟩=false/\w.cell? (ak R 2)=some a2/\w.frozen? ⟨R,2,none⟩=false/\w.cell? (ak R 3)=some a3/\w.frozen? ⟨R,3,none⟩=false/\w.cell? (ak R 4)=some a4/\w.frozen? ⟨R,4,none⟩=false/\w.cell? (ak R 5)=some a5/\w.frozen? ⟨R,5,none⟩=false/\w.cell? (ak R 6)=some a6/\w.frozen? ⟨R,6,none⟩=false/\w.cell? (ak R 7)=some a7/\w.frozen? ⟨R,7,none⟩=false/\w.cell? (ak R 8)=some a8/\w.frozen? ⟨R,8,none⟩=false/\w.cell? (ak R 9)=some a9/\w.frozen? ⟨R,9,none⟩=false/\w.cell? (ak R 10)=some Qs/\w.frozen? ⟨R,10,none⟩=false/\w.cell? (ak R 11)=some Qu/\w.frozen? ⟨R,11,none⟩=false:=⟨h.cell 0 _ rfl,h.di 0 _ rfl,h.cell 1 _ rfl,h.di 1 _ rfl,h.cell 2 _ rfl,h.di 2 _ rfl,h.cell 3 _ rfl,h.di 3 _ rfl,h.cell 4 _ rfl,h.di 4 _ rfl,h.cell 5 _ rfl,h.di 5 _ rfl,h.cell 6 _ rfl,h.di 6 _ rfl,h.cell 7 _ rfl,h.di 7 _ rfl,h.cell 8 _ rfl,h.di 8 _ rfl,h.cell 9 _ rfl,h.di 9 _ rfl,h.cell 10 _ rfl,h.di 10 _ rfl,h.cell 11 _ rfl,h.di 11 _ rfl⟩
theorem dY.WZ {w:ag}{R:Nat}{t:TypeId}{a0 a1 a2 a3 a4 a5 a6 a7 a8 a9 Qs Qu:ah}(h:dY w R #[a0,a1,a2,a3,a4,a5,a6,a7,a8,a9,Qs,Qu] t):(∀o,(w.alloc o).cell? (ak R 0)=some a0)/\(∀o,(w.alloc o).frozen? ⟨R,0,none⟩=false)/\(∀o,(w.alloc o).cell? (ak R 1)=some a1)/\(∀o,(w.alloc o).frozen? ⟨R,1,none⟩=false)/\(∀o,(w.alloc o).cell? (ak R 2)=some a2)/\(∀o,(w.alloc o).frozen? ⟨R,2,none⟩=false)/\(∀o,(w.alloc o).cell? (ak R 3)=some a3)/\(∀o,(w.alloc o).frozen? ⟨R,3,none⟩=false)/\(∀o,(w.alloc o).cell? (ak R 4)=some a4)/\(∀o,(w.alloc o).frozen? ⟨R,4,none⟩=false)/\(∀o,(w.alloc o).cell? (ak R 5)=some a5)/\(∀o,(w.alloc o).frozen? ⟨R,5,none⟩=false)/\(∀o,(w.alloc o).cell? (ak R 6)=some a6)/\(∀o,(w.alloc o).frozen? ⟨R,6,none⟩=false)/\(∀o,(w.alloc o).cell? (ak R 7)=some a7)/\(∀o,(w.alloc o).frozen? ⟨R,7,none⟩=false)/\(∀o,(w.alloc o).cell? (ak R 8)=some a8)/\(∀o,(w.alloc o).frozen? ⟨R,8,none⟩=false)/\(∀o,(w.alloc o).cell? (ak R 9)=some a9)/\(∀o,(w.alloc o).frozen? ⟨R,9,none⟩=false)/\(∀o,(w.alloc o).cell? (ak R 10)=some Qs)/\(∀o,(w.alloc o).frozen? ⟨R,10,none⟩=false)/\(∀o,(w.alloc o).cell? (ak R 11)=some Qu)/\(∀o,(w.alloc o).frozen? ⟨R,11,none⟩=false):=⟨fun o=>ax o (h.cell 0 _ rfl),fun o=>eP o (h.cell 0 _ rfl) (h.di 0 _ rfl),fun o=>ax o (h.cell 1 _ rfl),fun o=>eP o (h.cell 1 _ rfl) (h.di 1 _ rfl),fun o=>ax o (h.cell 2 _ rfl),fun o=>eP o (h.cell 2 _ rfl) (h.di 2 _ rfl),fun o=>ax o (h.cell 3 _ rfl),fun o=>eP o (h.cell 3 _ rfl) (h.di 3 _ rfl),fun o=>ax o (h.cell 4 _ rfl),fun o=>eP o (h.cell 4 _ rfl) (h.di 4 _ rfl),fun o=>ax o (h.cell 5 _ rfl),fun o=>eP o (h.cell 5 _ rfl) (h.di 5 _ rfl),fun o=>ax o (h.cell 6 _ rfl),fun o=>eP o (h.cell 6 _ rfl) (h.di 6 _ rfl),fun o=>ax o (h.cell 7 _ rfl),fun o=>eP o (h.cell 7 _ rfl) (h.di 7 _ rfl),fun o=>ax o (h.cell 8 _ rfl),fun o=>eP o (h.cell 8 _ rfl) (h.di 8 _ rfl),fun o=>ax o (h.cell 9 _ rfl),fun o=>eP o (h.cell 9 _ rfl) (h.di 9 _ rfl),fun o=>ax o (h.cell 10 _ rfl),fun o=>eP o (h.cell 10 _ rfl) (h.di 10 _ rfl),fun o=>ax o (h.cell 11 _ rfl),fun o=>eP o (h.cell 11 _ rfl) (h.di 11 _ rfl)⟩
theorem dY.twelve {w:ag}{R:Nat}{t:TypeId}{a0 a1 a2 a3 a4 a5 a6 a7 a8 a9 Qs Qu:ah}(h:dY w R #[a0,a1,a2,a3,a4,a5,a6,a7,a8,a9,Qs,Qu] t):w.cell? (ak R 0)=some a0/\w.cell? (ak R 1)=some a1/\w.cell? (ak R 2)=some a2/\w.cell? (ak R 3)=some a3/\w.cell? (ak R 4)=some a4/\w.cell? (ak R 5)=some a5/\w.cell? (ak R 6)=some a6/\w.cell? (ak R 7)=some a7/\w.cell? (ak R 8)=some a8/\w.cell? (ak R 9)=some a9/\w.cell? (ak R 10)=some Qs/\w.cell? (ak R 11)=some Qu:=⟨h.cell 0 _ rfl,h.cell 1 _ rfl,h.cell 2 _ rfl,h.cell 3 _ rfl,h.cell 4 _ rfl,h.cell 5 _ rfl,h.cell 6 _ rfl,h.cell 7 _ rfl,h.cell 8 _ rfl,h.cell 9 _ rfl,h.cell 10 _ rfl,h.cell 11 _ rfl⟩
theorem dY.new (w:ag)(cs:Array ah)(t:TypeId):dY (w.alloc (.cells cs t)) w.heap.size cs t:=⟨dW w _⟩
theorem dY.lt {w:ag}{R:Nat}{cs:Array ah}{t:TypeId}(h:dY w R cs t):R<w.heap.size:=(cZ.1 h.h).1
theorem dY.below {w w':ag}{B R:Nat}{cs:Array ah}{t:TypeId}(h:dY w R cs t)(hb:Below B w w')(hB:w.heap.size<=B):dY w' R cs t:=⟨(hb.block R (bI h.lt hB)).trans h.h⟩
theorem dY.alloc {w:ag}{R:Nat}{cs:Array ah}{t:TypeId}(h:dY w R cs t)(o:Obj):dY (w.alloc o) R cs t:=h.below ((aG _ w).alloc ai o) ai
theorem dY.upto {w w':ag}{b R:Nat}{cs:Array ah}{t:TypeId}(h:dY w R cs t)(hu:dA b w w')(hb:R≠b):dY w' R cs t:=⟨(hu.block R h.lt hb).trans h.h⟩
def put (w:ag)(R:Nat):Nat->List ah->ag
 |_,[]=>w
 |o,v::vs=>put (w.setCell ⟨R,o,none⟩ v) R (o+1) vs
theorem aW {B R:Nat}{A:ag}(hR:B<=R):∀(vs:List ah) (o:Nat) {w:ag},Below B A w->Below B A (put w R o vs)
 |[],_,_,h=>h
 |v::vs,o,_,h=>aW hR vs (o+1) (h.setCell hR v)
theorem fe {R:Nat}{p:Addr}(hp:p.block≠R):∀(vs:List ah) (o:Nat) (w:ag),(put w R o vs).cell? p=w.cell? p
 |[],_,_=>rfl
 |_::vs,o,_=>(fe hp vs (o+1) _).trans (aO _ _ _ _ (fun e=>hp e.symm))
inductive Er where
 |no
 |bare (c:Nat)
 |fault (c i:Nat)
def Er.is (aB aS aZ:Addr)(B:Nat):Er->ah->ag->Prop
 | .no,v,_=>v=.nilIface
 | .bare c,v,_=>c=2/\v=er aB aS aZ 2
 | .fault c i,v,W=>(c=2\/c=3)/\∃pb,B<=pb/\v=.iface 90 (ay pb)/\W.cell? (ak pb 0)=some (aa i)/\W.cell? (ak pb 1)=some (er aB aS aZ c)
theorem nD:∀(l:List Fr) (i:Nat),(aL i l).1=0->∀y∈l,dH y.n y.d=0
 |[],_,_,_,h=>by simp at h
 |x::r,i,h,y,hy=>by
  unfold aL at h;by_cases hx:dH x.n x.d=0
  ·rw[if_pos hx] at h;rcases List.mem_cons.1 hy with rfl|hy
   ·exact hx
   ·exact nD r (i+1) h y hy
  ·rw[if_neg hx] at h;exact(hx h).elim
theorem qw {m:Mv}(h:(aL 0 m.list).1=0):m.ok:=by
 have:=nD _ _ h;exact⟨this _ (by simp[Mv.list]),this _ (by simp[Mv.list]),this _ (by simp[Mv.list]),this _ (by simp[Mv.list]),this _ (by simp[Mv.list]),this _ (by simp[Mv.list])⟩
theorem Qv {p:Pt}(h:(aL 6 p.list).1=0):p.ok:=by
 have:=nD _ _ h;exact⟨this _ (by simp[Pt.list]),this _ (by simp[Pt.list])⟩
def qx (m n:Mv):Mv×Er:=
 if(aL 0 m.list).1≠0 then(.zero,.fault (aL 0 m.list).1 (aL 0 m.list).2) else if(aL 0 n.list).1≠0 then(.zero,.fault (aL 0 n.list).1 (aL 0 n.list).2)
 else if(thenS m n).2=0 then((thenS m n).1,.no) else(.zero,.bare 2)
def atR (m:Mv)(p:Pt):Pt×Er:=
 if(aL 0 m.list).1≠0 then(.zero,.fault (aL 0 m.list).1 (aL 0 m.list).2) else if(aL 6 p.list).1≠0 then(.zero,.fault (aL 6 p.list).1 (aL 6 p.list).2)
 else if(dm 0 m p).2=0 then((dm 0 m p).1,.no) else(.zero,.bare 2)
def a0T (aB aS aZ:Addr)(m:Mv)(r:Nat×Nat):Prop:=∀W,E3 aB aS aZ W->au 200 #[mv m] W fun e w'=>(∃pb,W.heap.size<=pb/\e=.returned (.iface 90 (ay pb))/\w'.cell? (ak pb 0)=some (aa r.2)/\w'.cell? (ak pb 1)=some (er aB aS aZ r.1))/\Below W.heap.size W w'
def Bu (aB aS aZ:Addr)(m:Mv):Prop:=∀W,E3 aB aS aZ W->au 200 #[mv m] W fun e w'=>e=.returned .nilIface/\Below W.heap.size W w'
theorem wE {aB aS aZ:Addr}{m:Mv}(hi:m.i64)(h:(aL 0 m.list).1=0):Bu aB aS aZ m:=fun W hE=>(za aB aS aZ m hi W hE).mono fun e w' ⟨⟨v,he,ht⟩,hb⟩=>by
 rcases ht with ht|ht
 ·exact⟨by rw[he,ht.2],hb⟩
 ·exact(ht.1 h).elim
theorem a4X {aB aS aZ:Addr}{m:Mv}(hi:m.i64)(h:(aL 0 m.list).1≠0):a0T aB aS aZ m (aL 0 m.list):=fun W hE=>(za aB aS aZ m hi W hE).mono fun e w' ⟨⟨v,he,ht⟩,hb⟩=>by
 rcases ht with ht|⟨_,_,pb,h1,h2,h3,h4⟩
 ·exact(h ht.1).elim
 ·exact⟨⟨pb,h1,by rw[he,h2],h3,h4⟩,hb⟩
theorem GV {l:List Fr}{i:Nat}(h:(aL i l).1≠0):(aL i l).1=2\/(aL i l).1=3:=by
 induction l generalizing i with
 |nil=>exact(h rfl).elim
 |cons x r ih=>
  unfold aL at h⊢;by_cases hx:dH x.n x.d=0
  ·rw[if_pos hx] at h⊢;exact ih h
  ·rw[if_neg hx] at h⊢;have:=fC x.n x.d;simp only at h⊢;omega
theorem X3 (m n:Mv)(W:ag):∃V,(((W.alloc (.cells (mA m) 125)).alloc (.cells (mA n) 125)).alloc (.cells zA 125))=V/\dY V (W.heap.size+1+1) zA 125/\dY V (W.heap.size+1) (mA n) 125/\dY V W.heap.size (mA m) 125/\Below W.heap.size W V/\V.heap.size=W.heap.size+3:=⟨_,rfl,by simpa using dY.new ((W.alloc (.cells (mA m) 125)).alloc (.cells (mA n) 125)) zA 125,(by simpa using dY.new (W.alloc (.cells (mA m) 125)) (mA n) 125:dY _ _ _ _).alloc _,((dY.new W (mA m) 125).alloc _).alloc _,(((aG _ W).alloc ai _).alloc (by simp) _).alloc (by simp;omega) _,by simp⟩
theorem Tp (aB aS aZ:Addr)(m n:Mv)(r:Nat×Nat)(W:ag)(hE:E3 aB aS aZ W)(HC:a0T aB aS aZ m r):
  au 147 #[mv m,mv n] W fun e w'=>(∃pb,W.heap.size<=pb/\e=.returned (.tuple #[mv .zero,.iface 90 (ay pb)])/\w'.cell? (ak pb 0)=some (aa r.2)/\w'.cell? (ak pb 1)=some (er aB aS aZ r.1))/\Below W.heap.size W w':=by
 have hF:∃V,(((W.alloc (.cells (mA m) 125)).alloc (.cells (mA n) 125)).alloc (.cells zA 125))=V/\dY V (W.heap.size+1+1) zA 125/\Below W.heap.size W V/\V.heap.size=W.heap.size+3:=⟨_,rfl,by simpa using dY.new ((W.alloc (.cells (mA m) 125)).alloc (.cells (mA n) 125)) zA 125,(((aG _ W).alloc ai _).alloc (by simp) _).alloc (by simp;omega) _,by simp⟩;go_enter func147,ntmps147;go_wp2_with(go_at_call 200;obtain⟨V,hV,hB,hb,hz⟩:=hF;refine(HC _ (hV▸hE.below hb ai)).mono ?_;rw[hV];rintro e w1 ⟨⟨pb,hp,rfl,p0,p1⟩,hb1⟩;have hB1:=hB.below hb1 ai;obtain⟨qC,Fy,qD,Fz,qE,FE,qF,FH,vJ,JR,vL,JS,vM,JU,vN,JV,vO,JW,vP,JX,jD,qW,jE,qX⟩:=hB1.six);refine bodyPost_ret (v:=.tuple #[mv .zero,.iface 90 (ay pb)]) (by simp[results,results147,go_sem,Mv.zero,Fr.zero,qC,qD,qE,qF,vJ,vL,vM,vN,vO,vP,jD,jE]) rfl ⟨⟨pb,by omega,rfl,?_,?_⟩,?_⟩
 ·exact(fe (p:=⟨pb,0,none⟩) (R:=W.heap.size+1+1) (by simp only;omega) zL 0 w1).trans p0
 ·exact(fe (p:=⟨pb,1,none⟩) (R:=W.heap.size+1+1) (by simp only;omega) zL 0 w1).trans p1
 ·exact aW (R:=W.heap.size+1+1) (by omega) zL 0 (hb.trans (hb1.mono (by omega)))
theorem Tq (aB aS aZ:Addr)(m n:Mv)(r:Nat×Nat)(W:ag)(hE:E3 aB aS aZ W)(HF:Bu aB aS aZ m)(HC:a0T aB aS aZ n r):
  au 147 #[mv m,mv n] W fun e w'=>(∃pb,W.heap.size<=pb/\e=.returned (.tuple #[mv .zero,.iface 90 (ay pb)])/\w'.cell? (ak pb 0)=some (aa r.2)/\w'.cell? (ak pb 1)=some (er aB aS aZ r.1))/\Below W.heap.size W w':=by
 have hF:∃V,(((W.alloc (.cells (mA m) 125)).alloc (.cells (mA n) 125)).alloc (.cells zA 125))=V/\dY V (W.heap.size+1+1) zA 125/\dY V (W.heap.size+1) (mA n) 125/\Below W.heap.size W V/\V.heap.size=W.heap.size+3:=⟨_,rfl,by simpa using dY.new ((W.alloc (.cells (mA m) 125)).alloc (.cells (mA n) 125)) zA 125,(by simpa using dY.new (W.alloc (.cells (mA m) 125)) (mA n) 125:dY _ _ _ _).alloc _,(((aG _ W).alloc ai _).alloc (by simp) _).alloc (by simp;omega) _,by simp⟩;go_enter func147,ntmps147;go_wp2_with(first|(go_at_call_of 200 n.a.n;refine(HC _ (hE.below hb ai|>.below hb1 ai)).mono ?_;rintro e w2 ⟨⟨pb,hp,rfl,p0,p1⟩,hb2⟩;have hB2:=(hB.below hb1 ai).below hb2 ai;obtain⟨qC,Fy,qD,Fz,qE,FE,qF,FH,vJ,JR,vL,JS,vM,JU,vN,JV,vO,JW,vP,JX,jD,qW,jE,qX⟩:=hB2.six)|(go_at_call_of 200 m.a.n;obtain⟨V,hV,hB,BN,hb,hz⟩:=hF;refine(HF _ (hV▸hE.below hb ai)).mono ?_;rw[hV];rintro e w1 ⟨rfl,hb1⟩;have BN1:=BN.below hb1 ai;obtain⟨nc0,nc1,nc2,nc3,nc4,nc5,nc6,nc7,nc8,nc9,a90,a92⟩:=BN1.twelve));have hz1:=hb1.size;refine bodyPost_ret (v:=.tuple #[mv .zero,.iface 90 (ay pb)]) (by simp[results,results147,go_sem,Mv.zero,Fr.zero,qC,qD,qE,qF,vJ,vL,vM,vN,vO,vP,jD,jE]) rfl ⟨⟨pb,by omega,rfl,?_,?_⟩,?_⟩
 ·exact(fe (p:=⟨pb,0,none⟩) (R:=W.heap.size+1+1) (by simp only;omega) zL 0 w2).trans p0
 ·exact(fe (p:=⟨pb,1,none⟩) (R:=W.heap.size+1+1) (by simp only;omega) zL 0 w2).trans p1
 ·exact aW (R:=W.heap.size+1+1) (by omega) zL 0 ((hb.trans (hb1.mono (by omega))).trans (hb2.mono (by omega)))
theorem JY (aB aS aZ:Addr)(m n:Mv)(q1 q2 q3:Pt)(c1 c2 c3:Nat)(r:Mv)(ev:ah)(W:ag)(hE:E3 aB aS aZ W)(HFM:Bu aB aS aZ m)(HFN:Bu aB aS aZ n)
  (T1:∀b V,Wk aB aS aZ W b 0 V->au 201 #[ay b,mv n,.agg #[aa m.a.n,aa m.a.d,aa m.b.n,aa m.b.d]] V fun e w'=>e=.returned (pv q1)/\Wk aB aS aZ W b c1 w'/\dA b V w')
  (T2:∀b V,Wk aB aS aZ W b c1 V->au 201 #[ay b,mv n,.agg #[aa m.c.n,aa m.c.d,aa m.d.n,aa m.d.d]] V fun e w'=>e=.returned (pv q2)/\Wk aB aS aZ W b c2 w'/\dA b V w')
  (T3:∀b V,Wk aB aS aZ W b c2 V->au 202 #[ay b,mv n,.agg #[aa m.e.n,aa m.e.d,aa m.f.n,aa m.f.d]] V fun e w'=>e=.returned (pv q3)/\Wk aB aS aZ W b c3 w'/\dA b V w')
  (HA:∀b V,Wk aB aS aZ W b c3 V->au 203 #[ay b,.agg #[aa q1.x.n,aa q1.x.d,aa q1.y.n,aa q1.y.d,aa q2.x.n,aa q2.x.d,aa q2.y.n,aa q2.y.d,aa q3.x.n,aa q3.x.d,aa q3.y.n,aa q3.y.d]] V fun e w'=>e=.returned (.tuple #[mv r,ev])/\Below V.heap.size V w'):
  au 147 #[mv m,mv n] W fun e w'=>e=.returned (.tuple #[mv r,ev])/\Below W.heap.size W w':=by
 have hF:=X3 m n W;go_enter func147,ntmps147;go_wp2_with(first|(go_at_call 203;clear dc0 dc1 dc2 dc3 dc4 dc5 dc6 dc7;refine(HA _ _ (hk5.alloc _)).mono ?_;rintro e w6 ⟨rfl,hb6⟩;have BR6:=(BR5.alloc _).below hb6 ai;have s6:=hb6.size;simp only[dB] at s6;obtain⟨qC,Fy,qD,Fz,qE,FE,qF,FH,vJ,JR,vL,JS,vM,JU,vN,JV,vO,JW,vP,JX,jD,qW,jE,qX⟩:=BR6.six)|(go_at_call 202;clear cc0 cc1 cc2 cc3 cc4 cc5 cc6 cc7 cc8 cc9 acV acW acX acY acZ ad1;refine(T3 _ _ (hk4.alloc _)).mono ?_;rintro e w5 ⟨rfl,hk5,hu5⟩;have BR5:=(BR4.alloc _).upto hu5 n2;have BX5:=(BX4.alloc _).upto hu5 hk3.ne;have BY5:=(dY.new w4 #[aa q2.x.n,aa q2.x.d,aa q2.y.n,aa q2.y.d] 168).upto hu5 hk4.ne;have s5:=hu5.size;simp only[dB] at s5;have dc0:=fun o=>ax o (BX5.cell 0 _ rfl);have dc1:=fun o=>ax o (BX5.cell 1 _ rfl);have dc2:=fun o=>ax o (BX5.cell 2 _ rfl);have dc3:=fun o=>ax o (BX5.cell 3 _ rfl);have dc4:=fun o=>ax o (BY5.cell 0 _ rfl);have dc5:=fun o=>ax o (BY5.cell 1 _ rfl);have dc6:=fun o=>ax o (BY5.cell 2 _ rfl);have dc7:=fun o=>ax o (BY5.cell 3 _ rfl))|(go_at_call_of 201 m.c.n;clear bc0 bc1 bc2 bc3 bc4 bc5 bc6 bc7 bc8 bc9 a0U a0V ad2 ad3 ad4 ad5;refine(T2 _ _ (hk3.alloc _)).mono ?_;rintro e w4 ⟨rfl,hk4,hu4⟩;have Vz:=(Tt.alloc _).upto hu4 n1;have BM4:=(BM3.alloc _).upto hu4 n0;have BR4:=(BR3.alloc _).upto hu4 n2;have BX4:=(dY.new w3 #[aa q1.x.n,aa q1.x.d,aa q1.y.n,aa q1.y.d] 168).upto hu4 hk3.ne;have s4:=hu4.size;simp only[dB] at s4;have cc0:=fun o=>ax o (Vz.cell 0 _ rfl);have cc1:=fun o=>ax o (Vz.cell 1 _ rfl);have cc2:=fun o=>ax o (Vz.cell 2 _ rfl);have cc3:=fun o=>ax o (Vz.cell 3 _ rfl);have cc4:=fun o=>ax o (Vz.cell 4 _ rfl);have cc5:=fun o=>ax o (Vz.cell 5 _ rfl);have cc6:=fun o=>ax o (Vz.cell 6 _ rfl);have cc7:=fun o=>ax o (Vz.cell 7 _ rfl);have cc8:=fun o=>ax o (Vz.cell 8 _ rfl);have cc9:=fun o=>ax o (Vz.cell 9 _ rfl);have acV:=fun o=>ax o (Vz.cell 10 _ rfl);have acW:=fun o=>ax o (Vz.cell 11 _ rfl);have acX:=fun o=>ax o (BM4.cell 8 _ rfl);have acY:=fun o=>ax o (BM4.cell 9 _ rfl);have acZ:=fun o=>ax o (BM4.cell 10 _ rfl);have ad1:=fun o=>ax o (BM4.cell 11 _ rfl))|(go_at_call_of 201 m.a.n;clear ac0 ac1 ac2 ac3 ac4 ac5 ac6 ac7 ac8 ac9 Tu Tv a4Z a5a a5b a5c;refine(T1 w2.heap.size _ ⟨hE,HB2.alloc HB2.size _,HB2.size,bD rfl rfl,lJ rfl⟩).mono ?_;rintro e w3 ⟨rfl,hk3,hu3⟩;have n0:W.heap.size≠w2.heap.size:=(by omega);have n1:W.heap.size+1≠w2.heap.size:=(by omega);have n2:W.heap.size+1+1≠w2.heap.size:=(by omega);have Tt:=(Tw.alloc _).upto hu3 n1;have BM3:=(Jc.alloc _).upto hu3 n0;have BR3:=(BR2.alloc _).upto hu3 n2;have s3:=hu3.size;simp only[dB] at s3;have bc0:=fun o=>ax o (Tt.cell 0 _ rfl);have bc1:=fun o=>ax o (Tt.cell 1 _ rfl);have bc2:=fun o=>ax o (Tt.cell 2 _ rfl);have bc3:=fun o=>ax o (Tt.cell 3 _ rfl);have bc4:=fun o=>ax o (Tt.cell 4 _ rfl);have bc5:=fun o=>ax o (Tt.cell 5 _ rfl);have bc6:=fun o=>ax o (Tt.cell 6 _ rfl);have bc7:=fun o=>ax o (Tt.cell 7 _ rfl);have bc8:=fun o=>ax o (Tt.cell 8 _ rfl);have bc9:=fun o=>ax o (Tt.cell 9 _ rfl);have a0U:=fun o=>ax o (Tt.cell 10 _ rfl);have a0V:=fun o=>ax o (Tt.cell 11 _ rfl);have ad2:=fun o=>ax o (BM3.cell 4 _ rfl);have ad3:=fun o=>ax o (BM3.cell 5 _ rfl);have ad4:=fun o=>ax o (BM3.cell 6 _ rfl);have ad5:=fun o=>ax o (BM3.cell 7 _ rfl))|(go_at_call_of 200 n.a.n;clear nc0 nc1 nc2 nc3 nc4 nc5 nc6 nc7 nc8 nc9 a90 a92;refine(HFN _ (hE.below hb ai|>.below hb1 ai)).mono ?_;rintro e w2 ⟨rfl,hb2⟩;have Tw:=BN1.below hb2 ai;have Jc:=(BM.below hb1 ai).below hb2 ai;have BR2:=(BR.below hb1 ai).below hb2 ai;have s1:=hb1.size;have s2:=hb2.size;have HB2:=(hb.trans (hb1.mono (by omega))).trans (hb2.mono (by omega));have ac0:=fun o=>ax o (Tw.cell 0 _ rfl);have ac1:=fun o=>ax o (Tw.cell 1 _ rfl);have ac2:=fun o=>ax o (Tw.cell 2 _ rfl);have ac3:=fun o=>ax o (Tw.cell 3 _ rfl);have ac4:=fun o=>ax o (Tw.cell 4 _ rfl);have ac5:=fun o=>ax o (Tw.cell 5 _ rfl);have ac6:=fun o=>ax o (Tw.cell 6 _ rfl);have ac7:=fun o=>ax o (Tw.cell 7 _ rfl);have ac8:=fun o=>ax o (Tw.cell 8 _ rfl);have ac9:=fun o=>ax o (Tw.cell 9 _ rfl);have Tu:=fun o=>ax o (Tw.cell 10 _ rfl);have Tv:=fun o=>ax o (Tw.cell 11 _ rfl);have a4Z:=fun o=>ax o (Jc.cell 0 _ rfl);have a5a:=fun o=>ax o (Jc.cell 1 _ rfl);have a5b:=fun o=>ax o (Jc.cell 2 _ rfl);have a5c:=fun o=>ax o (Jc.cell 3 _ rfl))|(go_at_call_of 200 m.a.n;obtain⟨V,hV,BR,BN,BM,hb,hz⟩:=hF;refine(HFM _ (hV▸hE.below hb ai)).mono ?_;rw[hV];rintro e w1 ⟨rfl,hb1⟩;have BN1:=BN.below hb1 ai;obtain⟨nc0,nc1,nc2,nc3,nc4,nc5,nc6,nc7,nc8,nc9,a90,a92⟩:=BN1.twelve))
 refine bodyPost_ret (v:=.tuple #[mv r,ev]) (by simp[results,results147,go_sem,qC,qD,qE,qF,vJ,vL,vM,vN,vO,vP,jD,jE]) rfl ⟨rfl,?_⟩;exact aW (R:=W.heap.size+1+1) (by omega) [aa r.a.n,aa r.a.d,aa r.b.n,aa r.b.d,aa r.c.n,aa r.c.d,aa r.d.n,aa r.d.d,aa r.e.n,aa r.e.d,aa r.f.n,aa r.f.d] 0 ((hk5.hb.alloc hk5.hb.size _).trans (hb6.mono (by simp;omega)))
theorem Bv (aB aS aZ:Addr)(p:Pt)(hi:p.i64)(W:ag)(hE:E3 aB aS aZ W):
  au 245 #[.func (.func 291) #[] #[.pointer (some ⟨W.heap.size+1+1,0,none⟩),.pointer (some ⟨W.heap.size+1,0,none⟩)]] (((W.alloc (.cells #[aa p.x.n,aa p.x.d,aa p.y.n,aa p.y.d] 123)).alloc (.cells #[aa 6] 3)).alloc (.cells #[.slice (some ⟨W.heap.size,0,none⟩) 2 2] 328)) fun e w'=>(∃v,e=.returned v/\Told aB aS aZ W.heap.size (aL 6 p.list) v w')/\Below W.heap.size W w':=by
 have hr:=WM p hi W 123 3 328;have hz:(((W.alloc (.cells #[aa p.x.n,aa p.x.d,aa p.y.n,aa p.y.d] 123)).alloc (.cells #[aa 6] 3)).alloc (.cells #[.slice (some ⟨W.heap.size,0,none⟩) 2 2] 328)).heap.size=W.heap.size+3:=by simp
 have hb:Below W.heap.size W (((W.alloc (.cells #[aa p.x.n,aa p.x.d,aa p.y.n,aa p.y.d] 123)).alloc (.cells #[aa 6] 3)).alloc (.cells #[.slice (some ⟨W.heap.size,0,none⟩) 2 2] 328)):=(((aG _ W).alloc ai _).alloc (by simp) _).alloc (by simp;omega) _;rw[<- hz] at hr;refine(uq aB aS aZ _ _ _ _ _ _ _ hr (hE.below hb ai)).mono ?_;rintro e w' ⟨⟨v,he,ht⟩,hb'⟩;exact⟨⟨v,he,ht.mono hb.size⟩,hb.trans (hb'.mono hb.size)⟩
def a3M (aB aS aZ:Addr)(p:Pt):Prop:=∀W,E3 aB aS aZ W->au 245 #[.func (.func 291) #[] #[.pointer (some ⟨W.heap.size+1+1,0,none⟩),.pointer (some ⟨W.heap.size+1,0,none⟩)]] (((W.alloc (.cells #[aa p.x.n,aa p.x.d,aa p.y.n,aa p.y.d] 123)).alloc (.cells #[aa 6] 3)).alloc (.cells #[.slice (some ⟨W.heap.size,0,none⟩) 2 2] 328)) fun e w'=>e=.returned .nilIface/\Below W.heap.size W w'
def a96 (aB aS aZ:Addr)(p:Pt)(r:Nat×Nat):Prop:=∀W,E3 aB aS aZ W->au 245 #[.func (.func 291) #[] #[.pointer (some ⟨W.heap.size+1+1,0,none⟩),.pointer (some ⟨W.heap.size+1,0,none⟩)]] (((W.alloc (.cells #[aa p.x.n,aa p.x.d,aa p.y.n,aa p.y.d] 123)).alloc (.cells #[aa 6] 3)).alloc (.cells #[.slice (some ⟨W.heap.size,0,none⟩) 2 2] 328)) fun e w'=>(∃pb,W.heap.size<=pb/\e=.returned (.iface 90 (ay pb))/\w'.cell? (ak pb 0)=some (aa r.2)/\w'.cell? (ak pb 1)=some (er aB aS aZ r.1))/\Below W.heap.size W w'
theorem a3N {aB aS aZ:Addr}{p:Pt}(hi:p.i64)(h:(aL 6 p.list).1=0):a3M aB aS aZ p:=fun W hE=>(Bv aB aS aZ p hi W hE).mono fun e w' ⟨⟨v,he,ht⟩,hb⟩=>by
 rcases ht with ht|ht
 ·exact⟨by rw[he,ht.2],hb⟩
 ·exact(ht.1 h).elim
theorem ad7 {aB aS aZ:Addr}{p:Pt}(hi:p.i64)(h:(aL 6 p.list).1≠0):a96 aB aS aZ p (aL 6 p.list):=fun W hE=>(Bv aB aS aZ p hi W hE).mono fun e w' ⟨⟨v,he,ht⟩,hb⟩=>by
 rcases ht with ht|⟨_,_,pb,h1,h2,h3,h4⟩
 ·exact(h ht.1).elim
 ·exact⟨⟨pb,h1,by rw[he,h2],h3,h4⟩,hb⟩
theorem O4 (m:Mv)(p:Pt)(W:ag):∃V,(((W.alloc (.cells (mA m) 125)).alloc (.cells #[aa p.x.n,aa p.x.d,aa p.y.n,aa p.y.d] 168)).alloc (.cells #[aa 0,aa 0,aa 0,aa 0] 168))=V/\dY V (W.heap.size+1+1) #[aa 0,aa 0,aa 0,aa 0] 168/\dY V (W.heap.size+1) #[aa p.x.n,aa p.x.d,aa p.y.n,aa p.y.d] 168/\dY V W.heap.size (mA m) 125/\Below W.heap.size W V/\V.heap.size=W.heap.size+3:=⟨_,rfl,by simpa using dY.new ((W.alloc (.cells (mA m) 125)).alloc (.cells #[aa p.x.n,aa p.x.d,aa p.y.n,aa p.y.d] 168)) #[aa 0,aa 0,aa 0,aa 0] 168,(by simpa using dY.new (W.alloc (.cells (mA m) 125)) #[aa p.x.n,aa p.x.d,aa p.y.n,aa p.y.d] 168:dY _ _ _ _).alloc _,((dY.new W (mA m) 125).alloc _).alloc _,(((aG _ W).alloc ai _).alloc (by simp) _).alloc (by simp;omega) _,by simp⟩
theorem a0W (aB aS aZ:Addr)(m:Mv)(p:Pt)(r:Nat×Nat)(W:ag)(hE:E3 aB aS aZ W)(HC:a0T aB aS aZ m r):
  au 234 #[mv m,pv p] W fun e w'=>(∃pb,W.heap.size<=pb/\e=.returned (.tuple #[pv .zero,.iface 90 (ay pb)])/\w'.cell? (ak pb 0)=some (aa r.2)/\w'.cell? (ak pb 1)=some (er aB aS aZ r.1))/\Below W.heap.size W w':=by
 have hF:=O4 m p W;go_enter func234,ntmps234;go_wp2_with(go_at_call 200;obtain⟨V,hV,hB,BP,BM,hb,hz⟩:=hF;refine(HC _ (hV▸hE.below hb ai)).mono ?_;rw[hV];rintro e w1 ⟨⟨pb,hp,rfl,p0,p1⟩,hb1⟩;have hB1:=hB.below hb1 ai;have qC:=hB1.cell 0 _ rfl;have Fy:=hB1.di 0 _ rfl;have qD:=hB1.cell 1 _ rfl;have Fz:=hB1.di 1 _ rfl;have qE:=hB1.cell 2 _ rfl;have FE:=hB1.di 2 _ rfl;have qF:=hB1.cell 3 _ rfl;have FH:=hB1.di 3 _ rfl);refine bodyPost_ret (v:=.tuple #[pv .zero,.iface 90 (ay pb)]) (by simp[results,results234,go_sem,Pt.zero,Fr.zero,qC,qD,qE,qF]) rfl ⟨⟨pb,by omega,rfl,?_,?_⟩,?_⟩
 ·exact(fe (p:=⟨pb,0,none⟩) (R:=W.heap.size+1+1) (by simp only;omega) [aa 0,aa 0,aa 0,aa 0] 0 w1).trans p0
 ·exact(fe (p:=⟨pb,1,none⟩) (R:=W.heap.size+1+1) (by simp only;omega) [aa 0,aa 0,aa 0,aa 0] 0 w1).trans p1
 ·exact aW (R:=W.heap.size+1+1) (by omega) [aa 0,aa 0,aa 0,aa 0] 0 (hb.trans (hb1.mono (by omega)))
theorem a0X (aB aS aZ:Addr)(m:Mv)(p:Pt)(r:Nat×Nat)(W:ag)(hE:E3 aB aS aZ W)(HFM:Bu aB aS aZ m)(HP:a96 aB aS aZ p r):
  au 234 #[mv m,pv p] W fun e w'=>(∃pb,W.heap.size<=pb/\e=.returned (.tuple #[pv .zero,.iface 90 (ay pb)])/\w'.cell? (ak pb 0)=some (aa r.2)/\w'.cell? (ak pb 1)=some (er aB aS aZ r.1))/\Below W.heap.size W w':=by
 have hF:=O4 m p W;have HN:=pF;go_enter func234,ntmps234;go_wp2_with(first|(go_at_call 245;refine HP1.mono ?_;rintro e w2 ⟨⟨pb,hp,rfl,p0,p1⟩,hb2⟩;have hB2:=(BR.below hb1 ai).below hb2 ai;have qC:=hB2.cell 0 _ rfl;have Fy:=hB2.di 0 _ rfl;have qD:=hB2.cell 1 _ rfl;have Fz:=hB2.di 1 _ rfl;have qE:=hB2.cell 2 _ rfl;have FE:=hB2.di 2 _ rfl;have qF:=hB2.cell 3 _ rfl;have FH:=hB2.di 3 _ rfl)|(go_at_call 269;refine(HN 6 (.slice (some ⟨w1.heap.size,0,none⟩) 2 2) _ _ _ rfl _).mono ?_;rintro e wn ⟨rfl,rfl⟩;have HP1:=HP w1 (hE.below hb ai|>.below hb1 ai);simp only[dB])|(go_at_call 200;obtain⟨V,hV,BR,BP,BM,hb,hz⟩:=hF;refine(HFM _ (hV▸hE.below hb ai)).mono ?_;rw[hV];rintro e w1 ⟨rfl,hb1⟩;have BP1:=BP.below hb1 ai;have s1:=hb1.size;have pc0:=BP1.cell 0 _ rfl;have pc1:=BP1.cell 1 _ rfl;have pc2:=BP1.cell 2 _ rfl;have pc3:=BP1.cell 3 _ rfl));refine bodyPost_ret (v:=.tuple #[pv .zero,.iface 90 (ay pb)]) (by simp[results,results234,go_sem,Pt.zero,Fr.zero,qC,qD,qE,qF]) rfl ⟨⟨pb,by omega,rfl,?_,?_⟩,?_⟩
 ·exact(fe (p:=⟨pb,0,none⟩) (R:=W.heap.size+1+1) (by simp only;omega) [aa 0,aa 0,aa 0,aa 0] 0 w2).trans p0
 ·exact(fe (p:=⟨pb,1,none⟩) (R:=W.heap.size+1+1) (by simp only;omega) [aa 0,aa 0,aa 0,aa 0] 0 w2).trans p1
 ·exact aW (R:=W.heap.size+1+1) (by omega) [aa 0,aa 0,aa 0,aa 0] 0 ((hb.trans (hb1.mono (by omega))).trans (hb2.mono (by omega)))
theorem X4 (aB aS aZ:Addr)(m:Mv)(p q:Pt)(c:Nat)(r:Pt)(ev:ah)(hc:(c=0/\r=q/\ev=.nilIface)\/(c=2/\r=.zero/\ev=.iface 401 (.pointer (some aB))))(W:ag)(hE:E3 aB aS aZ W)(HFM:Bu aB aS aZ m)(HP:a3M aB aS aZ p)
  (T:∀b V,Wk aB aS aZ W b 0 V->au 202 #[ay b,mv m,pv p] V fun e w'=>e=.returned (.agg #[aa q.x.n,aa q.x.d,aa q.y.n,aa q.y.d])/\Wk aB aS aZ W b c w'/\dA b V w'):
  au 234 #[mv m,pv p] W fun e w'=>e=.returned (.tuple #[pv r,ev])/\Below W.heap.size W w':=by
 have hF:=O4 m p W;have HN:=pF;go_enter func234,ntmps234;go_upto_region 9 with(first|(go_at_call 202;clear ac0 ac1 ac2 ac3 ac4 ac5 ac6 ac7 ac8 ac9 Tu Tv a4Z a5a a5b a5c;refine(T _ _ ⟨hE,HB2.alloc HB2.size _,HB2.size,bD rfl rfl,lJ rfl⟩).mono ?_;rintro e w3 ⟨rfl,hk3,hu3⟩;have n2:W.heap.size+1+1≠w2.heap.size:=(by omega);have BR3:=((BR2.alloc _).upto hu3 n2).alloc (.cells #[aa q.x.n,aa q.x.d,aa q.y.n,aa q.y.d] 168);have qC:=BR3.cell 0 _ rfl;have Fy:=BR3.di 0 _ rfl;have qD:=BR3.cell 1 _ rfl;have Fz:=BR3.di 1 _ rfl;have qE:=BR3.cell 2 _ rfl;have FE:=BR3.di 2 _ rfl;have qF:=BR3.cell 3 _ rfl;have FH:=BR3.di 3 _ rfl;have hk4:=hk3.alloc (.cells #[aa q.x.n,aa q.x.d,aa q.y.n,aa q.y.d] 168);have kc:=hk4.cell;have nq:¬w2.heap.size=W.heap.size+1+1:=(by omega);have nq':¬W.heap.size+1+1=w2.heap.size:=(by omega);have s3:=hu3.size;simp only[dB] at s3;have nr:¬W.heap.size+1+1=w3.heap.size:=(by omega);have nr':¬w3.heap.size=W.heap.size+1+1:=(by omega))|(go_at_call 245;refine HP1.mono ?_;rintro e w2 ⟨rfl,hb2⟩;clear pc0 pc1 pc2 pc3 HP1;have Jc:=(BM.below hb1 ai).below hb2 ai;have BP2:=BP1.below hb2 ai;have BR2:=(BR.below hb1 ai).below hb2 ai;have s2:=hb2.size;have HB2:=(hb.trans (hb1.mono (by omega))).trans (hb2.mono (by omega));have ac0:=fun o=>ax o (Jc.cell 0 _ rfl);have ac1:=fun o=>ax o (Jc.cell 1 _ rfl);have ac2:=fun o=>ax o (Jc.cell 2 _ rfl);have ac3:=fun o=>ax o (Jc.cell 3 _ rfl);have ac4:=fun o=>ax o (Jc.cell 4 _ rfl);have ac5:=fun o=>ax o (Jc.cell 5 _ rfl);have ac6:=fun o=>ax o (Jc.cell 6 _ rfl);have ac7:=fun o=>ax o (Jc.cell 7 _ rfl);have ac8:=fun o=>ax o (Jc.cell 8 _ rfl);have ac9:=fun o=>ax o (Jc.cell 9 _ rfl);have Tu:=fun o=>ax o (Jc.cell 10 _ rfl);have Tv:=fun o=>ax o (Jc.cell 11 _ rfl);have a4Z:=fun o=>ax o (BP2.cell 0 _ rfl);have a5a:=fun o=>ax o (BP2.cell 1 _ rfl);have a5b:=fun o=>ax o (BP2.cell 2 _ rfl);have a5c:=fun o=>ax o (BP2.cell 3 _ rfl))|(go_at_call 269;refine(HN 6 (.slice (some ⟨w1.heap.size,0,none⟩) 2 2) _ _ _ rfl _).mono ?_;rintro e wn ⟨rfl,rfl⟩;have HP1:=HP w1 (hE.below hb ai|>.below hb1 ai);simp only[dB])|(go_at_call 200;obtain⟨V,hV,BR,BP,BM,hb,hz⟩:=hF;refine(HFM _ (hV▸hE.below hb ai)).mono ?_;rw[hV];rintro e w1 ⟨rfl,hb1⟩;have BP1:=BP.below hb1 ai;have s1:=hb1.size;have pc0:=BP1.cell 0 _ rfl;have pc1:=BP1.cell 1 _ rfl;have pc2:=BP1.cell 2 _ rfl;have pc3:=BP1.cell 3 _ rfl))
 rcases hc with⟨rfl,rfl,rfl⟩|⟨rfl,rfl,rfl⟩
 ·simp only[qM] at kc;go_wp2;refine bodyPost_ret (v:=.tuple #[pv r,.nilIface]) (by simp[results,results234,go_sem,qC,qD,qE,qF]) rfl ⟨rfl,?_⟩;exact aW (R:=W.heap.size+1+1) (by omega) [aa r.x.n,aa r.x.d,aa r.y.n,aa r.y.d] 0 hk4.hb
 ·simp only[WN] at kc;go_upto_region 10 with fail;go_region;go_wp2;refine bodyPost_ret (v:=.tuple #[pv .zero,.iface 401 (.pointer (some aB))]) (by simp[results,results234,go_sem,Pt.zero,Fr.zero,qC,qD,qE,qF]) rfl ⟨rfl,?_⟩;exact aW (R:=W.heap.size+1+1) (by omega) [aa 0,aa 0,aa 0,aa 0] 0 (below_drewN hk4.hb 1)
theorem iB (n:Int)(W:ag):au 93 #[aa n] W fun e w'=>e=.returned (.agg #[aa n,aa 1])/\Below W.heap.size W w':=by
 go_enter func93,ntmps93;go_wp2;refine bodyPost_ret (v:=.agg #[aa n,aa 1]) (by simp[results,results93,go_sem]) rfl ⟨rfl,?_⟩;exact(aG _ W).alloc ai _
theorem pG (W:ag):au 51 #[] W fun e w'=>e=.returned (mv .one)/\Below W.heap.size W w':=by
 obtain⟨K1,K2,K3,K4,K5,K6⟩:=And.intro iB (And.intro iB (And.intro iB (And.intro iB (And.intro iB iB))));have B0:=dY.new W zA 125;have L0:=(aG W.heap.size W).alloc ai (.cells zA 125);go_enter func51,ntmps51;go_wp2_with(first|(go_at_call 93;refine(K1 _ _).mono ?_;clear K1;rintro e w1 ⟨rfl,hb1⟩;have B1:=B0.below hb1 ai;have L1:=L0.trans (hb1.mono L0.size))|(go_at_call 93;refine(K2 _ _).mono ?_;clear K2;rintro e w2 ⟨rfl,hb2⟩;have B2:=B1.below hb2 ai;have L2:=L1.trans (hb2.mono L1.size))|(go_at_call 93;refine(K3 _ _).mono ?_;clear K3;rintro e w3 ⟨rfl,hb3⟩;have B3:=B2.below hb3 ai;have L3:=L2.trans (hb3.mono L2.size))|(go_at_call 93;refine(K4 _ _).mono ?_;clear K4;rintro e w4 ⟨rfl,hb4⟩;have B4:=B3.below hb4 ai;have L4:=L3.trans (hb4.mono L3.size))|(go_at_call 93;refine(K5 _ _).mono ?_;clear K5;rintro e w5 ⟨rfl,hb5⟩;have B5:=B4.below hb5 ai;have L5:=L4.trans (hb5.mono L4.size))|(go_at_call 93;refine(K6 _ _).mono ?_;clear K6;rintro e w6 ⟨rfl,hb6⟩;have B6:=B5.below hb6 ai;have L6:=L5.trans (hb6.mono L5.size);obtain⟨qC,Fy,qD,Fz,qE,FE,qF,FH,vJ,JR,vL,JS,vM,JU,vN,JV,vO,JW,vP,JX,jD,qW,jE,qX⟩:=B6.six));refine bodyPost_ret (v:=mv .one) (by simp[results,results51,go_sem,Mv.one,Fr.whole,qC,qD,qE,qF,vJ,vL,vM,vN,vO,vP,jD,jE]) rfl ⟨rfl,?_⟩;exact aW (R:=W.heap.size) ai oL 0 L6
theorem JZ (m n:Mv):∃q1 c1 q2 c2 q3 c3,bN 0 n ⟨m.a,m.b⟩=(q1,c1)/\bN c1 n ⟨m.c,m.d⟩=(q2,c2)/\dm c2 n ⟨m.e,m.f⟩=(q3,c3)/\thenS m n=(⟨q1.x,q1.y,q2.x,q2.y,q3.x,q3.y⟩,c3):=by
 unfold thenS;generalize bN 0 n ⟨m.a,m.b⟩=t;obtain⟨q1,c1⟩:=t;generalize hu:bN (q1,c1).2 n ⟨m.c,m.d⟩=u;obtain⟨q2,c2⟩:=u;generalize hv:dm (q2,c2).2 n ⟨m.e,m.f⟩=v;obtain⟨q3,c3⟩:=v;exact⟨q1,c1,q2,c2,q3,c3,rfl,hu,hv,rfl⟩
theorem Bz (aB aS aZ:Addr){m n:Mv}(om:m.ok)(on:n.ok)(W:ag):∃q1 c1 q2 c2 q3 c3,thenS m n=(⟨q1.x,q1.y,q2.x,q2.y,q3.x,q3.y⟩,c3)/\
  (∀b V,Wk aB aS aZ W b 0 V->au 201 #[ay b,mv n,.agg #[aa m.a.n,aa m.a.d,aa m.b.n,aa m.b.d]] V fun e w'=>e=.returned (pv q1)/\Wk aB aS aZ W b c1 w'/\dA b V w')/\
  (∀b V,Wk aB aS aZ W b c1 V->au 201 #[ay b,mv n,.agg #[aa m.c.n,aa m.c.d,aa m.d.n,aa m.d.d]] V fun e w'=>e=.returned (pv q2)/\Wk aB aS aZ W b c2 w'/\dA b V w')/\
  (∀b V,Wk aB aS aZ W b c2 V->au 202 #[ay b,mv n,.agg #[aa m.e.n,aa m.e.d,aa m.f.n,aa m.f.d]] V fun e w'=>e=.returned (pv q3)/\Wk aB aS aZ W b c3 w'/\dA b V w'):=by
 obtain⟨q1,c1,q2,c2,q3,c3,e1,e2,e3,e4⟩:=JZ m n;obtain⟨k1,_⟩:=jA (c:=0) (m:=n) (p:=⟨m.a,m.b⟩) (.inl rfl) on ⟨om.1,om.2.1⟩;rw[e1] at k1;obtain⟨k2,_⟩:=jA (m:=n) (p:=⟨m.c,m.d⟩) k1 on ⟨om.2.2.1,om.2.2.2.1⟩;rw[e2] at k2;have T1:=fun b V h=>uY (aB:=aB) (aS:=aS) (aZ:=aZ) (w0:=W) (b:=b) (c:=0) (m:=n) (p:=⟨m.a,m.b⟩) (.inl rfl) on ⟨om.1,om.2.1⟩ V h;have T2:=fun b V h=>uY (aB:=aB) (aS:=aS) (aZ:=aZ) (w0:=W) (b:=b) (m:=n) (p:=⟨m.c,m.d⟩) k1 on ⟨om.2.2.1,om.2.2.2.1⟩ V h;have T3:=fun b V h=>xP (aB:=aB) (aS:=aS) (aZ:=aZ) (w0:=W) (b:=b) (m:=n) (p:=⟨m.e,m.f⟩) k2 on ⟨om.2.2.2.2.1,om.2.2.2.2.2⟩ V h;rw[e1] at T1;rw[e2] at T2;rw[e3] at T3;exact⟨q1,c1,q2,c2,q3,c3,e4,T1,T2,T3⟩
theorem Qw {aB aS aZ:Addr}{m n x:Mv}(hm:m.i64)(hn:n.i64)(h:qx m n=(x,.no))(W:ag)(hE:E3 aB aS aZ W):
  au 147 #[mv m,mv n] W fun e w'=>e=.returned (.tuple #[mv x,.nilIface])/\Below W.heap.size W w':=by
 unfold qx at h;by_cases h1:(aL 0 m.list).1=0
 ·rw[if_neg (by simp[h1])] at h;by_cases h2:(aL 0 n.list).1=0
  ·rw[if_neg (by simp[h2])] at h;by_cases h3:(thenS m n).2=0
   ·rw[if_pos h3] at h;have hx:(thenS m n).1=x:=by simpa using congrArg Prod.fst h
    obtain⟨q1,c1,q2,c2,q3,c3,e4,T1,T2,T3⟩:=Bz aB aS aZ (qw h1) (qw h2) W;rw[e4] at hx h3;obtain rfl:c3=0:=h3;subst hx;exact JY aB aS aZ m n q1 q2 q3 c1 c2 _ _ _ W hE (wE hm h1) (wE hn h2) T1 T2 T3 fun b V h=>Tn ⟨q1.x,q1.y,q2.x,q2.y,q3.x,q3.y⟩ V h
   ·rw[if_neg h3] at h;cases h
  ·rw[if_pos h2] at h;cases h
 ·rw[if_pos h1] at h;cases h
theorem Qx {aB aS aZ:Addr}{m n:Mv}(hm:m.i64)(hn:n.i64)(h:∀x,qx m n≠(x,.no))(W:ag)(hE:E3 aB aS aZ W):
  au 147 #[mv m,mv n] W fun e w'=>(∃v,e=.returned (.tuple #[mv .zero,v])/\(qx m n).2.is aB aS aZ W.heap.size v w')/\Below W.heap.size W w':=by
 unfold qx at h⊢;by_cases h1:(aL 0 m.list).1=0
 ·rw[if_neg (by simp[h1])] at h⊢;by_cases h2:(aL 0 n.list).1=0
  ·rw[if_neg (by simp[h2])] at h⊢;by_cases h3:(thenS m n).2=0
   ·rw[if_pos h3] at h;exact(h _ rfl).elim
   ·rw[if_neg h3];have h4:(thenS m n).2=2:=(xM (qw h1) (qw h2)).1.resolve_left h3;obtain⟨q1,c1,q2,c2,q3,c3,e4,T1,T2,T3⟩:=Bz aB aS aZ (qw h1) (qw h2) W;rw[e4] at h4;obtain rfl:c3=2:=h4;refine(JY aB aS aZ m n q1 q2 q3 c1 c2 _ _ _ W hE (wE hm h1) (wE hn h2) T1 T2 T3 fun b V h=>O3 ⟨q1.x,q1.y,q2.x,q2.y,q3.x,q3.y⟩ V h).mono ?_;rintro e w' ⟨he,hb⟩;exact⟨⟨_,he,rfl,rfl⟩,hb⟩
  ·rw[if_pos h2];refine(Tq aB aS aZ m n _ W hE (wE hm h1) (a4X hn h2)).mono ?_;rintro e w' ⟨⟨pb,q1,he,q2,q3⟩,hb⟩;exact⟨⟨_,he,GV h2,pb,q1,rfl,q2,q3⟩,hb⟩
 ·rw[if_pos h1];refine(Tp aB aS aZ m n _ W hE (a4X hm h1)).mono ?_;rintro e w' ⟨⟨pb,q1,he,q2,q3⟩,hb⟩;exact⟨⟨_,he,GV h1,pb,q1,rfl,q2,q3⟩,hb⟩
theorem a97 {aB aS aZ:Addr}{m:Mv}{p q:Pt}(hm:m.i64)(hp:p.i64)(h:atR m p=(q,.no))(W:ag)(hE:E3 aB aS aZ W):
  au 234 #[mv m,pv p] W fun e w'=>e=.returned (.tuple #[pv q,.nilIface])/\Below W.heap.size W w':=by
 unfold atR at h;by_cases h1:(aL 0 m.list).1=0
 ·rw[if_neg (by simp[h1])] at h;by_cases h2:(aL 6 p.list).1=0
  ·rw[if_neg (by simp[h2])] at h;by_cases h3:(dm 0 m p).2=0
   ·rw[if_pos h3] at h;obtain rfl:(dm 0 m p).1=q:=by simpa using congrArg Prod.fst h
    have T:=fun b V h=>xP (aB:=aB) (aS:=aS) (aZ:=aZ) (w0:=W) (b:=b) (c:=0) (.inl rfl) (qw h1) (Qv h2) V h;rw[h3] at T;exact X4 aB aS aZ m p _ _ _ _ (.inl ⟨rfl,rfl,rfl⟩) W hE (wE hm h1) (a3N hp h2) T
   ·rw[if_neg h3] at h;cases h
  ·rw[if_pos h2] at h;cases h
 ·rw[if_pos h1] at h;cases h
theorem a98 {aB aS aZ:Addr}{m:Mv}{p:Pt}(hm:m.i64)(hp:p.i64)(h:∀q,atR m p≠(q,.no))(W:ag)(hE:E3 aB aS aZ W):
  au 234 #[mv m,pv p] W fun e w'=>(∃v,e=.returned (.tuple #[pv .zero,v])/\(atR m p).2.is aB aS aZ W.heap.size v w')/\Below W.heap.size W w':=by
 unfold atR at h⊢;by_cases h1:(aL 0 m.list).1=0
 ·rw[if_neg (by simp[h1])] at h⊢;by_cases h2:(aL 6 p.list).1=0
  ·rw[if_neg (by simp[h2])] at h⊢;by_cases h3:(dm 0 m p).2=0
   ·rw[if_pos h3] at h;exact(h _ rfl).elim
   ·rw[if_neg h3];have h4:(dm 0 m p).2=2:=(uX (c:=0) (.inl rfl) (qw h1) (Qv h2)).1.resolve_left h3;have T:=fun b V h=>xP (aB:=aB) (aS:=aS) (aZ:=aZ) (w0:=W) (b:=b) (c:=0) (.inl rfl) (qw h1) (Qv h2) V h;rw[h4] at T;refine(X4 aB aS aZ m p _ _ _ _ (.inr ⟨rfl,rfl,rfl⟩) W hE (wE hm h1) (a3N hp h2) T).mono ?_;rintro e w' ⟨he,hb⟩;exact⟨⟨_,he,rfl,rfl⟩,hb⟩
  ·rw[if_pos h2];refine(a0X aB aS aZ m p _ W hE (wE hm h1) (ad7 hp h2)).mono ?_;rintro e w' ⟨⟨pb,q1,he,q2,q3⟩,hb⟩;exact⟨⟨_,he,GV h2,pb,q1,rfl,q2,q3⟩,hb⟩
 ·rw[if_pos h1];refine(a0W aB aS aZ m p _ W hE (a4X hm h1)).mono ?_;rintro e w' ⟨⟨pb,q1,he,q2,q3⟩,hb⟩;exact⟨⟨_,he,GV h1,pb,q1,rfl,q2,q3⟩,hb⟩
end
section
open Go.RowKit
theorem gP (P:Program)(w:ag)(a:Addr)(m:Mode)(f:Fn)(x y:Array ah):(store a (.func f x y) m).run P w=stored P w a (.func f x y) m:=run_store P w a _ m rfl
attribute [local go_sem] gP
abbrev FI:aC:=⟨#[109,111,118,101]⟩
abbrev xQ:aC:=⟨#[115,99,97,108,101]⟩
abbrev zb:aC:=⟨#[116,117,114,110]⟩
abbrev FJ:aC:=⟨#[115,107,101,119]⟩
theorem qY (k:Nat)(W:ag):au 277 #[.func (.func k) #[] #[]] W fun e w'=>e=.returned (.func (.func 300) #[] #[ay W.heap.size])/\w'=W.alloc (.cells #[.func (.func k) #[] #[]] 373):=by
 go_enter func277,ntmps277;go_wp2;go_ret;exact⟨rfl,rfl⟩
theorem Ka (W:ag):au 243 #[.string FI] W fun e w'=>(∃B,W.heap.size<=B/\e=.returned (.tuple #[.agg #[aa 2,.func (.func 300) #[] #[ay B]],.bool true])/\w'.cell? (ak B 0)=some (.func (.func 278) #[] #[]))/\Below W.heap.size W w':=by
 have HO:=qY;go_enter func243,ntmps243;go_wp2_with(go_at_call 277;refine(HO _ _).mono ?_;rintro e w1 ⟨rfl,rfl⟩);refine bodyPost_ret (v:=.tuple #[.agg #[aa 2,.func (.func 300) #[] #[.pointer (some ⟨W.heap.size+1,0,none⟩)]],.bool true]) (by simp[results,results243,go_sem]) rfl ⟨⟨W.heap.size+1,by omega,rfl,bD (by simp) rfl⟩,?_⟩;exact((aG _ W).alloc ai _).alloc (by simp) _
theorem GY (W:ag):au 243 #[.string xQ] W fun e w'=>(∃B,W.heap.size<=B/\e=.returned (.tuple #[.agg #[aa 2,.func (.func 300) #[] #[ay B]],.bool true])/\w'.cell? (ak B 0)=some (.func (.func 279) #[] #[]))/\Below W.heap.size W w':=by
 have HO:=qY;go_enter func243,ntmps243;go_wp2_with(go_at_call 277;refine(HO _ _).mono ?_;rintro e w1 ⟨rfl,rfl⟩);refine bodyPost_ret (v:=.tuple #[.agg #[aa 2,.func (.func 300) #[] #[.pointer (some ⟨W.heap.size+1,0,none⟩)]],.bool true]) (by simp[results,results243,go_sem]) rfl ⟨⟨W.heap.size+1,by omega,rfl,bD (by simp) rfl⟩,?_⟩;exact((aG _ W).alloc ai _).alloc (by simp) _
theorem Kb (W:ag):au 243 #[.string FJ] W fun e w'=>(∃B,W.heap.size<=B/\e=.returned (.tuple #[.agg #[aa 1,.func (.func 300) #[] #[ay B]],.bool true])/\w'.cell? (ak B 0)=some (.func (.func 281) #[] #[]))/\Below W.heap.size W w':=by
 have HO:=qY;go_enter func243,ntmps243;go_wp2_with(go_at_call 277;refine(HO _ _).mono ?_;rintro e w1 ⟨rfl,rfl⟩);refine bodyPost_ret (v:=.tuple #[.agg #[aa 1,.func (.func 300) #[] #[.pointer (some ⟨W.heap.size+1,0,none⟩)]],.bool true]) (by simp[results,results243,go_sem]) rfl ⟨⟨W.heap.size+1,by omega,rfl,bD (by simp) rfl⟩,?_⟩;exact((aG _ W).alloc ai _).alloc (by simp) _
theorem qZ (W:ag):au 243 #[.string zb] W fun e w'=>e=.returned (.tuple #[.agg #[aa 1,.func (.func 280) #[] #[]],.bool true])/\Below W.heap.size W w':=by
 go_enter func243,ntmps243;go_wp2;refine bodyPost_ret (v:=.tuple #[.agg #[aa 1,.func (.func 280) #[] #[]],.bool true]) (by simp[results,results243,go_sem]) rfl ⟨rfl,?_⟩;exact(aG _ W).alloc ai _
end
end Go.Proofs.YtecneflbncjhpaaGreatDoor

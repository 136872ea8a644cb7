/- Parts of the proof. -/
import Derived.Test.YtjfiehbcamfdfaaGreatDoorQz6
import Derived.Lib.ItoaNum
namespace Go.Proofs.YtjfiehbcamfdfaaGreatDoor
open Go.Proofs.Tryz
set_option maxHeartbeats 8000000
section
open Go.RowKit
theorem a1H {b Q:Nat}{W A B:ag}{m:Mv}{q:Pt}(hu:cK b A B)(h1:W.heap.size≠b)(h3:Q≠b)(h:(fun w'=>w'.cell? ⟨W.heap.size,8,none⟩=some (aa m.e.n)/\w'.cell? ⟨W.heap.size,9,none⟩=some (aa m.e.d)/\w'.cell? ⟨W.heap.size,10,none⟩=some (aa m.f.n)/\w'.cell? ⟨W.heap.size,11,none⟩=some (aa m.f.d)/\w'.cell? (ak Q 0)=some (aa q.x.n)/\w'.cell? (ak Q 1)=some (aa q.x.d)/\w'.cell? (ak Q 2)=some (aa q.y.n)/\w'.cell? (ak Q 3)=some (aa q.y.d)) A):(fun w'=>w'.cell? ⟨W.heap.size,8,none⟩=some (aa m.e.n)/\w'.cell? ⟨W.heap.size,9,none⟩=some (aa m.e.d)/\w'.cell? ⟨W.heap.size,10,none⟩=some (aa m.f.n)/\w'.cell? ⟨W.heap.size,11,none⟩=some (aa m.f.d)/\w'.cell? (ak Q 0)=some (aa q.x.n)/\w'.cell? (ak Q 1)=some (aa q.x.d)/\w'.cell? (ak Q 2)=some (aa q.y.n)/\w'.cell? (ak Q 3)=some (aa q.y.d)) B:=by
 obtain⟨k0,k1,k2,k3,k4,k5,k6,k7⟩:=h;exact⟨hu.cell k0 h1,hu.cell k1 h1,hu.cell k2 h1,hu.cell k3 h1,hu.cell k4 h3,hu.cell k5 h3,hu.cell k6 h3,hu.cell k7 h3⟩
theorem a2S {Q R:Nat}{W w:ag}{m:Mv}{q:Pt}{v1 v2 v3 v4:ah}(h:(fun w'=>w'.cell? ⟨W.heap.size,8,none⟩=some (aa m.e.n)/\w'.cell? ⟨W.heap.size,9,none⟩=some (aa m.e.d)/\w'.cell? ⟨W.heap.size,10,none⟩=some (aa m.f.n)/\w'.cell? ⟨W.heap.size,11,none⟩=some (aa m.f.d)/\w'.cell? (ak Q 0)=some (aa q.x.n)/\w'.cell? (ak Q 1)=some (aa q.x.d)/\w'.cell? (ak Q 2)=some (aa q.y.n)/\w'.cell? (ak Q 3)=some (aa q.y.d)) w)(h1:R≠W.heap.size)(h3:R≠Q):(fun w'=>w'.cell? ⟨W.heap.size,8,none⟩=some (aa m.e.n)/\w'.cell? ⟨W.heap.size,9,none⟩=some (aa m.e.d)/\w'.cell? ⟨W.heap.size,10,none⟩=some (aa m.f.n)/\w'.cell? ⟨W.heap.size,11,none⟩=some (aa m.f.d)/\w'.cell? (ak Q 0)=some (aa q.x.n)/\w'.cell? (ak Q 1)=some (aa q.x.d)/\w'.cell? (ak Q 2)=some (aa q.y.n)/\w'.cell? (ak Q 3)=some (aa q.y.d)) ((((w.setCell ⟨R,0,none⟩ v1).setCell ⟨R,1,none⟩ v2).setCell ⟨R,2,none⟩ v3).setCell ⟨R,3,none⟩ v4):=by
 obtain⟨k0,k1,k2,k3,k4,k5,k6,k7⟩:=h;exact⟨(World.cell?_setCell_far _ _ _ _ h1).trans ((World.cell?_setCell_far _ _ _ _ h1).trans ((World.cell?_setCell_far _ _ _ _ h1).trans ((World.cell?_setCell_far _ _ _ _ h1).trans k0))),(World.cell?_setCell_far _ _ _ _ h1).trans ((World.cell?_setCell_far _ _ _ _ h1).trans ((World.cell?_setCell_far _ _ _ _ h1).trans ((World.cell?_setCell_far _ _ _ _ h1).trans k1))),(World.cell?_setCell_far _ _ _ _ h1).trans ((World.cell?_setCell_far _ _ _ _ h1).trans ((World.cell?_setCell_far _ _ _ _ h1).trans ((World.cell?_setCell_far _ _ _ _ h1).trans k2))),(World.cell?_setCell_far _ _ _ _ h1).trans ((World.cell?_setCell_far _ _ _ _ h1).trans ((World.cell?_setCell_far _ _ _ _ h1).trans ((World.cell?_setCell_far _ _ _ _ h1).trans k3))),(World.cell?_setCell_far _ _ _ _ h3).trans ((World.cell?_setCell_far _ _ _ _ h3).trans ((World.cell?_setCell_far _ _ _ _ h3).trans ((World.cell?_setCell_far _ _ _ _ h3).trans k4))),(World.cell?_setCell_far _ _ _ _ h3).trans ((World.cell?_setCell_far _ _ _ _ h3).trans ((World.cell?_setCell_far _ _ _ _ h3).trans ((World.cell?_setCell_far _ _ _ _ h3).trans k5))),(World.cell?_setCell_far _ _ _ _ h3).trans ((World.cell?_setCell_far _ _ _ _ h3).trans ((World.cell?_setCell_far _ _ _ _ h3).trans ((World.cell?_setCell_far _ _ _ _ h3).trans k6))),(World.cell?_setCell_far _ _ _ _ h3).trans ((World.cell?_setCell_far _ _ _ _ h3).trans ((World.cell?_setCell_far _ _ _ _ h3).trans ((World.cell?_setCell_far _ _ _ _ h3).trans k7)))⟩
theorem QY (aB aS aZ:Addr)(w0:ag)(b:Nat)(m:Mv)(p q:Pt)(r1 r2:Fr)(c c6 c7 c8:Nat)(W:ag)(h:Wk aB aS aZ w0 b c W)
  (HT:∀W,Wk aB aS aZ w0 b c W->ax 201 #[ay b,mv m,pv p] W fun e w'=>e=.returned (.agg #[aa q.x.n,aa q.x.d,aa q.y.n,aa q.y.d])/\Wk aB aS aZ w0 b c6 w'/\cK b W w')
  (D7:QX aB aS aZ w0 b 233 c6 q.x m.e r1 c7) (D8:QX aB aS aZ w0 b 233 c7 q.y m.f r2 c8):
  ax 202 #[ay b,mv m,pv p] W fun e w'=>e=.returned (.agg #[aa r1.n,aa r1.d,aa r2.n,aa r2.d])/\Wk aB aS aZ w0 b c8 w'/\cK b W w':=by
 have hlt:=aC h.cell;simp only at hlt;have Zl:W.heap.size≠b:=by omega
 have hw0:=h.hb.size;have hF:∃V,(((W.alloc (.cells (mA m) 129)).alloc (.cells #[aa p.x.n,aa p.x.d,aa p.y.n,aa p.y.d] 177)).alloc (.cells #[aa 0,aa 0,aa 0,aa 0] 177))=V/\Head W m p V/\Wk aB aS aZ w0 b c V/\cK b W V:=⟨_,rfl,Head.new W m p,((h.alloc _).alloc _).alloc _,(((cK.refl b W).alloc _).alloc _).alloc _⟩;go_enter func202,ntmps202;go_wp2_with(go_at_call 201;obtain⟨V,hV,hH,HK,HU⟩:=hF;refine(HT _ (hV▸HK)).mono ?_;rw[hV];rintro e wt ⟨rfl,hk,hu⟩);have H0:=(hH.upto hu hlt).upto ((cK.refl b wt).alloc (.cells #[aa q.x.n,aa q.x.d,aa q.y.n,aa q.y.d] 177)) hlt|>.upto (cK.drew b _ 1) hlt
 have hj0:=(hk.alloc (.cells #[aa q.x.n,aa q.x.d,aa q.y.n,aa q.y.d] 177)).drew 1;have nbq:=hk.ne;have U0:=((HU.trans hu).alloc (.cells #[aa q.x.n,aa q.x.d,aa q.y.n,aa q.y.d] 177)).trans (cK.drew b _ 1);have hsz:=(hH.upto hu hlt).sz;have hS:(fun w'=>w'.cell? ⟨W.heap.size,8,none⟩=some (aa m.e.n)/\w'.cell? ⟨W.heap.size,9,none⟩=some (aa m.e.d)/\w'.cell? ⟨W.heap.size,10,none⟩=some (aa m.f.n)/\w'.cell? ⟨W.heap.size,11,none⟩=some (aa m.f.d)/\w'.cell? ⟨wt.heap.size,0,none⟩=some (aa q.x.n)/\w'.cell? ⟨wt.heap.size,1,none⟩=some (aa q.x.d)/\w'.cell? ⟨wt.heap.size,2,none⟩=some (aa q.y.n)/\w'.cell? ⟨wt.heap.size,3,none⟩=some (aa q.y.d)) ((wt.alloc (.cells #[aa q.x.n,aa q.x.d,aa q.y.n,aa q.y.d] 177)).drewN 1):=⟨H0.c8,H0.c9,H0.c10,H0.c11,bg rfl rfl,bg rfl rfl,bg rfl rfl,bg rfl rfl⟩;have nr1:W.heap.size+1+1≠W.heap.size:=by omega
 have nr2:W.heap.size+1+1≠wt.heap.size:=by omega
 go_region_held3 (fun w'=>w'.cell? ⟨W.heap.size,8,none⟩=some (aa m.e.n)/\w'.cell? ⟨W.heap.size,9,none⟩=some (aa m.e.d)/\w'.cell? ⟨W.heap.size,10,none⟩=some (aa m.f.n)/\w'.cell? ⟨W.heap.size,11,none⟩=some (aa m.f.d)/\w'.cell? ⟨wt.heap.size,0,none⟩=some (aa q.x.n)/\w'.cell? ⟨wt.heap.size,1,none⟩=some (aa q.x.d)/\w'.cell? ⟨wt.heap.size,2,none⟩=some (aa q.y.n)/\w'.cell? ⟨wt.heap.size,3,none⟩=some (aa q.y.d)) (first|assumption|exact a2S (by assumption) nr1 nr2|go_keep) (first|(go_at_call_of 243 m.f.n;refine(D8 _ hj1).mono ?_;rintro e w2 ⟨rfl,hj2,hu2⟩;have hs2:=a1H hu2 Zl nbq (by assumption);have U2:=U1.trans hu2;have H2:=H1.upto hu2 hlt;obtain⟨e0,e1,e2,e3⟩:=And.intro H2.r0 (And.intro H2.r1 (And.intro H2.r2 H2.r3));obtain⟨f0,f1,f2,f3⟩:=And.intro H2.f0 (And.intro H2.f1 (And.intro H2.f2 H2.f3)))|(go_at_call_of 243 m.e.n;refine(D7 _ hj0).mono ?_;rintro e w1 ⟨rfl,hj1,hu1⟩;have hs1:=a1H hu1 Zl nbq (by assumption);have U1:=U0.trans hu1;have H1:=H0.upto hu1 hlt;skip))
 go_wp2;refine bodyPost_ret (v:=.agg #[aa r1.n,aa r1.d,aa r2.n,aa r2.d]) (by simp[results,results202,go_sem,e0,e1,e2,e3]) rfl ⟨rfl,?_,?_⟩
 ·have hq:w0.heap.size<=W.heap.size+1+1:=by omega
  have hn:W.heap.size+1+1≠b:=by omega
  exact(((hj2.store hq hn _ _).store hq hn _ _).store hq hn _ _).store hq hn _ _
 ·have hq:W.heap.size<=W.heap.size+1+1:=by omega
  exact(((U2.store hq _ _).store hq _ _).store hq _ _).store hq _ _
theorem iV {x:Fr}(h:x.ok):x.i64:=fZ h
theorem Iw:Fr.zero.i64:=⟨⟨by decide,by decide⟩,⟨by decide,by decide⟩⟩
theorem Good.i64 {op:Op4}{F:Rat->Rat->Rat}(g:Good op F){c:Nat}{x y:Fr}(hx:c=0->x.ok)(hy:c=0->y.ok):(rZ op c x y).1.i64:=by
 by_cases hc:c=0
 ·subst hc;rcases g.two x y (hx rfl) (hy rfl) with h|h
  ·have:=g.val x y (op x.n x.d y.n y.d).n (op x.n x.d y.n y.d).d (by rw[<- h]);simp only[rZ,if_pos];exact iV this.2.2.1
  ·simp only[rZ,if_pos,h];exact Iw
 ·simp only[rZ,if_neg hc];exact Iw
theorem Good.code {op:Op4}{F:Rat->Rat->Rat}(g:Good op F){x y:Fr}(hx:x.ok)(hy:y.ok):(op x.n x.d y.n y.d).c=0\/(op x.n x.d y.n y.d).c=2:=by
 rcases g.two x y hx hy with h|h
 ·exact .inl h
 ·exact .inr (by rw[h])
theorem Ej {aB aS aZ:Addr}{w0:ag}{b c:Nat}{a x d y:Fr}(hc:c=0\/c=2)(ha:a.ok)(hx:x.ok)(hd:d.ok)(hy:y.ok):
  ∃x1 c1 x2 c2,QX aB aS aZ w0 b 244 c a x x1 c1/\QX aB aS aZ w0 b 244 c1 d y x2 c2/\QX aB aS aZ w0 b 233 c2 x1 x2 (wO c a x d y).1 (wO c a x d y).2:=by
 obtain⟨h1,k1⟩:=gy.step hc (fun _=>ha) (fun _=>hx);obtain⟨h2,k2⟩:=gy.step h1 (fun _=>hd) (fun _=>hy);refine⟨_,_,_,_,OM hc (iV ha) (iV hx) (fun _=>gy.code ha hx),OM h1 (iV hd) (iV hy) (fun _=>gy.code hd hy),?_⟩;exact Fx h2 (gy.i64 (fun _=>ha) (fun _=>hx)) (gy.i64 (fun _=>hd) (fun _=>hy)) (fun e=>jm.code (k1 (k2 e).1).2.1 (k2 e).2.1)
theorem tV {aB aS aZ:Addr}{w0:ag}{b c:Nat}{m:Mv}{p:Pt}(hc:c=0\/c=2)(hm:m.ok)(hp:p.ok)(W:ag)(h:Wk aB aS aZ w0 b c W):
  ax 201 #[ay b,mv m,pv p] W fun e w'=>e=.returned (pv (bI c m p).1)/\Wk aB aS aZ w0 b (bI c m p).2 w'/\cK b W w':=by
 obtain⟨x1,c1,x2,c2,D1,D2,D3⟩:=Ej (aB:=aB) (aS:=aS) (aZ:=aZ) (w0:=w0) (b:=b) hc hm.1 hp.1 hm.2.2.1 hp.2;obtain⟨y1,c4,y2,c5,D4,D5,D6⟩:=Ej (aB:=aB) (aS:=aS) (aZ:=aZ) (w0:=w0) (b:=b) (uU hc hm.1 hp.1 hm.2.2.1 hp.2).1 hm.2.1 hp.1 hm.2.2.2.1 hp.2;exact Me aB aS aZ w0 b m p x1 x2 _ y1 y2 _ c c1 c2 _ c4 c5 _ W h D1 D2 D3 D4 D5 D6
theorem wT {aB aS aZ:Addr}{w0:ag}{b c:Nat}{m:Mv}{p:Pt}(hc:c=0\/c=2)(hm:m.ok)(hp:p.ok)(W:ag)(h:Wk aB aS aZ w0 b c W):
  ax 202 #[ay b,mv m,pv p] W fun e w'=>e=.returned (pv (bZ c m p).1)/\Wk aB aS aZ w0 b (bZ c m p).2 w'/\cK b W w':=by
 obtain⟨h1,k1⟩:=iW hc hm hp;have HT:=fun W h=>tV (aB:=aB) (aS:=aS) (aZ:=aZ) (w0:=w0) (b:=b) hc hm hp W h;have hi:(bI c m p).1.x.i64/\(bI c m p).1.y.i64:=by
  obtain⟨g1,g2⟩:=gy.step hc (fun _=>hm.1) (fun _=>hp.1);obtain⟨g3,g4⟩:=gy.step g1 (fun _=>hm.2.2.1) (fun _=>hp.2);obtain⟨g5,_⟩:=uU hc hm.1 hp.1 hm.2.2.1 hp.2;obtain⟨g7,g8⟩:=gy.step g5 (fun _=>hm.2.1) (fun _=>hp.1);obtain⟨_,g9⟩:=gy.step g7 (fun _=>hm.2.2.2.1) (fun _=>hp.2);exact⟨jm.i64 (fun e=>(g2 (g4 e).1).2.1) (fun e=>(g4 e).2.1),jm.i64 (fun e=>(g8 (g9 e).1).2.1) (fun e=>(g9 e).2.1)⟩
 unfold bZ;generalize bI c m p=t at h1 k1 HT hi⊢;obtain⟨h2,k2⟩:=jm.step h1 (x:=t.1.x) (y:=m.e) (fun e=>(k1 e).2.1.1) (fun _=>hm.2.2.2.2.1);exact QY aB aS aZ w0 b m p t.1 _ _ c t.2 _ _ W h HT (Fx h1 hi.1 (iV hm.2.2.2.2.1) (fun e=>jm.code (k1 e).2.1.1 hm.2.2.2.2.1)) (Fx h2 hi.2 (iV hm.2.2.2.2.2) (fun e=>jm.code (k1 (k2 e).1).2.1.2 hm.2.2.2.2.2))
theorem QZ {aB aS aZ:Addr}{w0:ag}{b:Nat}(m:Mv)(W:ag)(h:Wk aB aS aZ w0 b 0 W):
  ax 203 #[ay b,mv m] W fun e w'=>e=.returned (.tuple #[mv m,.nilIface])/\Below W.heap.size W w':=by
 have k1:=(h.alloc (.cells (mA m) 129)).alloc (.cells zA 129);have k2:=k1.cell;rw[pO] at k2;clear k1;go_enter func203,ntmps203;go_wp2;refine bodyPost_ret (v:=.tuple #[mv m,.nilIface]) (by simp[results,results203,go_sem]) rfl ⟨rfl,?_⟩;exact((Below.refl _ W).alloc ai _).alloc (by simp) _
theorem Mf {aB aS aZ:Addr}{w0:ag}{b:Nat}(m:Mv)(W:ag)(h:Wk aB aS aZ w0 b 2 W):
  ax 203 #[ay b,mv m] W fun e w'=>e=.returned (.tuple #[mv .zero,er aB aS aZ 2])/\Below W.heap.size W w':=by
 have k1:=(h.alloc (.cells (mA m) 129)).alloc (.cells zA 129);have k2:=k1.cell;rw[Vb] at k2;have hlt:=aC h.cell;simp only at hlt;clear k1;go_enter func203,ntmps203;go_wp2;go_region;go_wp2;refine bodyPost_ret (v:=.tuple #[mv .zero,.iface 390 (.pointer (some aB))]) (by simp[results,results203,go_sem,Mv.zero,Fr.zero]) rfl ⟨rfl,?_⟩;exact below_drewN (((Below.refl _ W).alloc ai _).alloc (by simp) _) 1
structure dH (w:ag)(R:Nat)(cs:Array ah)(t:TypeId):Prop where
 h:w.heap[R]? =some (.cells cs t)
theorem dH.cell {w:ag}{R:Nat}{cs:Array ah}{t:TypeId}(h:dH w R cs t)(i:Nat)(v:ah)(hv:cs[i]? =some v):w.cell? (ak R i)=some v:=by simp[World.cell?,h.h,hv]
theorem dH.dD {w:ag}{R:Nat}{cs:Array ah}{t:TypeId}(h:dH w R cs t)(i:Nat)(v:ah)(hv:cs[i]? =some v):w.frozen? ⟨R,i,none⟩=false:=by
 have:=h.cell i v hv;simp[World.frozen?,h.h]
theorem dH.six {w:ag}{R:Nat}{t:TypeId}{a0 a1 a2 a3 a4 a5 a6 a7 a8 a9 OO OP:ah}(h:dH w R #[a0,a1,a2,a3,a4,a5,a6,a7,a8,a9,OO,OP] t):w.cell? (ak R 0)=some a0/\w.frozen? ⟨R,0,none⟩=false/\w.cell? (ak R 1)=some a1/\w.frozen? ⟨R,1,none⟩=false/\w.cell? (ak R 2)=some a2/\w.frozen? ⟨R,2,none⟩=false/\w.cell? (ak R 3)=some a3/\w.frozen? ⟨R,3,none⟩=false/\w.cell? (ak R 4)=some a4/\w.frozen? ⟨R,4,none⟩=false/\w.cell? (ak R 5)=some a5/\w.frozen? ⟨R,5,none⟩=false/\w.cell? (ak R 6)=some a6/\w.frozen? ⟨R,6,none⟩=false/\w.cell? (ak R 7)=some a7/\w.frozen? ⟨R,7,none⟩=false/\w.cell? (ak R 8)=some a8/\w.frozen? ⟨R,8,none⟩=false/\w.cell? (ak R 9)=some a9/\w.frozen? ⟨R,9,none⟩=false/\w.cell? (ak R 10)=some OO/\w.frozen? ⟨R,10,none⟩=false/\w.cell? (ak R 11)=some OP/\w.frozen? ⟨R,11,none⟩=false:=⟨h.cell 0 _ rfl,h.dD 0 _ rfl,h.cell 1 _ rfl,h.dD 1 _ rfl,h.cell 2 _ rfl,h.dD 2 _ rfl,h.cell 3 _ rfl,h.dD 3 _ rfl,h.cell 4 _ rfl,h.dD 4 _ rfl,h.cell 5 _ rfl,h.dD 5 _ rfl,h.cell 6 _ rfl,h.dD 6 _ rfl,h.cell 7 _ rfl,h.dD 7 _ rfl,h.cell 8 _ rfl,h.dD 8 _ rfl,h.cell 9 _ rfl,h.dD 9 _ rfl,h.cell 10 _ rfl,h.dD 10 _ rfl,h.cell 11 _ rfl,h.dD 11 _ rfl⟩
theorem dH.Vi {w:ag}{R:Nat}{t:TypeId}{a0 a1 a2 a3 a4 a5 a6 a7 a8 a9 OO OP:ah}(h:dH w R #[a0,a1,a2,a3,a4,a5,a6,a7,a8,a9,OO,OP] t):(∀o,(w.alloc o).cell? (ak R 0)=some a0)/\(∀o,(w.alloc o).frozen? ⟨R,0,none⟩=false)/\(∀o,(w.alloc o).cell? (ak R 1)=some a1)/\(∀o,(w.alloc o).frozen? ⟨R,1,none⟩=false)/\(∀o,(w.alloc o).cell? (ak R 2)=some a2)/\(∀o,(w.alloc o).frozen? ⟨R,2,none⟩=false)/\(∀o,(w.alloc o).cell? (ak R 3)=some a3)/\(∀o,(w.alloc o).frozen? ⟨R,3,none⟩=false)/\(∀o,(w.alloc o).cell? (ak R 4)=some a4)/\(∀o,(w.alloc o).frozen? ⟨R,4,none⟩=false)/\(∀o,(w.alloc o).cell? (ak R 5)=some a5)/\(∀o,(w.alloc o).frozen? ⟨R,5,none⟩=false)/\(∀o,(w.alloc o).cell? (ak R 6)=some a6)/\(∀o,(w.alloc o).frozen? ⟨R,6,none⟩=false)/\(∀o,(w.alloc o).cell? (ak R 7)=some a7)/\(∀o,(w.alloc o).frozen? ⟨R,7,none⟩=false)/\(∀o,(w.alloc o).cell? (ak R 8)=some a8)/\(∀o,(w.alloc o).frozen? ⟨R,8,none⟩=false)/\(∀o,(w.alloc o).cell? (ak R 9)=some a9)/\(∀o,(w.alloc o).frozen? ⟨R,9,none⟩=false)/\(∀o,(w.alloc o).cell? (ak R 10)=some OO)/\(∀o,(w.alloc o).frozen? ⟨R,10,none⟩=false)/\(∀o,(w.alloc o).cell? (ak R 11)=some OP)/\(∀o,(w.alloc o).frozen? ⟨R,11,none⟩=false):=⟨fun o=>au o (h.cell 0 _ rfl),fun o=>dK o (h.cell 0 _ rfl) (h.dD 0 _ rfl),fun o=>au o (h.cell 1 _ rfl),fun o=>dK o (h.cell 1 _ rfl) (h.dD 1 _ rfl),fun o=>au o (h.cell 2 _ rfl),fun o=>dK o (h.cell 2 _ rfl) (h.dD 2 _ rfl),fun o=>au o (h.cell 3 _ rfl),fun o=>dK o (h.cell 3 _ rfl) (h.dD 3 _ rfl),fun o=>au o (h.cell 4 _ rfl),fun o=>dK o (h.cell 4 _ rfl) (h.dD 4 _ rfl),fun o=>au o (h.cell 5 _ rfl),fun o=>dK o (h.cell 5 _ rfl) (h.dD 5 _ rfl),fun o=>au o (h.cell 6 _ rfl),fun o=>dK o (h.cell 6 _ rfl) (h.dD 6 _ rfl),fun o=>au o (h.cell 7 _ rfl),fun o=>dK o (h.cell 7 _ rfl) (h.dD 7 _ rfl),fun o=>au o (h.cell 8 _ rfl),fun o=>dK o (h.cell 8 _ rfl) (h.dD 8 _ rfl),fun o=>au o (h.cell 9 _ rfl),fun o=>dK o (h.cell 9 _ rfl) (h.dD 9 _ rfl),fun o=>au o (h.cell 10 _ rfl),fun o=>dK o (h.cell 10 _ rfl) (h.dD 10 _ rfl),fun o=>au o (h.cell 11 _ rfl),fun o=>dK o (h.cell 11 _ rfl) (h.dD 11 _ rfl)⟩
theorem dH.twelve {w:ag}{R:Nat}{t:TypeId}{a0 a1 a2 a3 a4 a5 a6 a7 a8 a9 OO OP:ah}(h:dH w R #[a0,a1,a2,a3,a4,a5,a6,a7,a8,a9,OO,OP] t):w.cell? (ak R 0)=some a0/\w.cell? (ak R 1)=some a1/\w.cell? (ak R 2)=some a2/\w.cell? (ak R 3)=some a3/\w.cell? (ak R 4)=some a4/\w.cell? (ak R 5)=some a5/\w.cell? (ak R 6)=some a6/\w.cell? (ak R 7)=some a7/\w.cell? (ak R 8)=some a8/\w.cell? (ak R 9)=some a9/\w.cell? (ak R 10)=some OO/\w.cell? (ak R 11)=some OP:=⟨h.cell 0 _ rfl,h.cell 1 _ rfl,h.cell 2 _ rfl,h.cell 3 _ rfl,h.cell 4 _ rfl,h.cell 5 _ rfl,h.cell 6 _ rfl,h.cell 7 _ rfl,h.cell 8 _ rfl,h.cell 9 _ rfl,h.cell 10 _ rfl,h.cell 11 _ rfl⟩
theorem dH.new (w:ag)(cs:Array ah)(t:TypeId):dH (w.alloc (.cells cs t)) w.heap.size cs t:=⟨World.alloc_heap_new w _⟩
theorem dH.lt {w:ag}{R:Nat}{cs:Array ah}{t:TypeId}(h:dH w R cs t):R<w.heap.size:=(Array.getElem?_eq_some_iff.1 h.h).1
theorem dH.below {w w':ag}{B R:Nat}{cs:Array ah}{t:TypeId}(h:dH w R cs t)(hb:Below B w w')(hB:w.heap.size<=B):dH w' R cs t:=⟨(hb.block R (Nat.lt_of_lt_of_le h.lt hB)).trans h.h⟩
theorem dH.alloc {w:ag}{R:Nat}{cs:Array ah}{t:TypeId}(h:dH w R cs t)(o:Obj):dH (w.alloc o) R cs t:=h.below ((Below.refl _ w).alloc ai o) ai
theorem dH.upto {w w':ag}{b R:Nat}{cs:Array ah}{t:TypeId}(h:dH w R cs t)(hu:cK b w w')(hb:R≠b):dH w' R cs t:=⟨(hu.block R h.lt hb).trans h.h⟩
def put (w:ag)(R:Nat):Nat->List ah->ag
 |_,[]=>w
 |o,v::vs=>put (w.setCell ⟨R,o,none⟩ v) R (o+1) vs
theorem aQ {B R:Nat}{A:ag}(hR:B<=R):∀(vs:List ah) (o:Nat) {w:ag},Below B A w->Below B A (put w R o vs)
 |[],_,_,h=>h
 |v::vs,o,_,h=>aQ hR vs (o+1) (h.setCell hR v)
theorem dP {R:Nat}{p:Addr}(hp:p.block≠R):∀(vs:List ah) (o:Nat) (w:ag),(put w R o vs).cell? p=w.cell? p
 |[],_,_=>rfl
 |_::vs,o,_=>(dP hp vs (o+1) _).trans (World.cell?_setCell_far _ _ _ _ (fun e=>hp e.symm))
inductive Er where
 |no
 |bare (c:Nat)
 |fault (c i:Nat)
def Er.is (aB aS aZ:Addr)(B:Nat):Er->ah->ag->Prop
 | .no,v,_=>v=.nilIface
 | .bare c,v,_=>c=2/\v=er aB aS aZ 2
 | .fault c i,v,W=>(c=2\/c=3)/\∃pb,B<=pb/\v=.iface 113 (ay pb)/\W.cell? (ak pb 0)=some (aa i)/\W.cell? (ak pb 1)=some (er aB aS aZ c)
theorem mh:∀(l:List Fr) (i:Nat),(aK i l).1=0->∀y∈l,dz y.n y.d=0
 |[],_,_,_,h=>by simp at h
 |x::r,i,h,y,hy=>by
  unfold aK at h;by_cases hx:dz x.n x.d=0
  ·rw[if_pos hx] at h;rcases List.mem_cons.1 hy with rfl|hy
   ·exact hx
   ·exact mh r (i+1) h y hy
  ·rw[if_neg hx] at h;exact(hx h).elim
theorem oN {m:Mv}(h:(aK 0 m.list).1=0):m.ok:=by
 have:=mh _ _ h;exact⟨this _ (by simp[Mv.list]),this _ (by simp[Mv.list]),this _ (by simp[Mv.list]),this _ (by simp[Mv.list]),this _ (by simp[Mv.list]),this _ (by simp[Mv.list])⟩
theorem OQ {p:Pt}(h:(aK 6 p.list).1=0):p.ok:=by
 have:=mh _ _ h;exact⟨this _ (by simp[Pt.list]),this _ (by simp[Pt.list])⟩
def oO (m n:Mv):Mv×Er:=
 if(aK 0 m.list).1≠0 then(.zero,.fault (aK 0 m.list).1 (aK 0 m.list).2) else if(aK 0 n.list).1≠0 then(.zero,.fault (aK 0 n.list).1 (aK 0 n.list).2)
 else if(thenS m n).2=0 then((thenS m n).1,.no) else(.zero,.bare 2)
def atR (m:Mv)(p:Pt):Pt×Er:=
 if(aK 0 m.list).1≠0 then(.zero,.fault (aK 0 m.list).1 (aK 0 m.list).2) else if(aK 6 p.list).1≠0 then(.zero,.fault (aK 6 p.list).1 (aK 6 p.list).2)
 else if(bZ 0 m p).2=0 then((bZ 0 m p).1,.no) else(.zero,.bare 2)
def Zm (aB aS aZ:Addr)(m:Mv)(r:Nat×Nat):Prop:=∀W,E3 aB aS aZ W->ax 200 #[mv m] W fun e w'=>(∃pb,W.heap.size<=pb/\e=.returned (.iface 113 (ay pb))/\w'.cell? (ak pb 0)=some (aa r.2)/\w'.cell? (ak pb 1)=some (er aB aS aZ r.1))/\Below W.heap.size W w'
def Ai (aB aS aZ:Addr)(m:Mv):Prop:=∀W,E3 aB aS aZ W->ax 200 #[mv m] W fun e w'=>e=.returned .nilIface/\Below W.heap.size W w'
theorem uX {aB aS aZ:Addr}{m:Mv}(hi:m.i64)(h:(aK 0 m.list).1=0):Ai aB aS aZ m:=fun W hE=>(yh aB aS aZ m hi W hE).mono fun e w' ⟨⟨v,he,ht⟩,hb⟩=>by
 rcases ht with ht|ht
 ·exact⟨by rw[he,ht.2],hb⟩
 ·exact(ht.1 h).elim
theorem a2T {aB aS aZ:Addr}{m:Mv}(hi:m.i64)(h:(aK 0 m.list).1≠0):Zm aB aS aZ m (aK 0 m.list):=fun W hE=>(yh aB aS aZ m hi W hE).mono fun e w' ⟨⟨v,he,ht⟩,hb⟩=>by
 rcases ht with ht|⟨_,_,pb,h1,h2,h3,h4⟩
 ·exact(h ht.1).elim
 ·exact⟨⟨pb,h1,by rw[he,h2],h3,h4⟩,hb⟩
theorem Fy {l:List Fr}{i:Nat}(h:(aK i l).1≠0):(aK i l).1=2\/(aK i l).1=3:=by
 induction l generalizing i with
 |nil=>exact(h rfl).elim
 |cons x r ih=>
  unfold aK at h⊢;by_cases hx:dz x.n x.d=0
  ·rw[if_pos hx] at h⊢;exact ih h
  ·rw[if_neg hx] at h⊢;have:=eu x.n x.d;simp only at h⊢;omega
theorem Vj (m n:Mv)(W:ag):∃V,(((W.alloc (.cells (mA m) 129)).alloc (.cells (mA n) 129)).alloc (.cells zA 129))=V/\dH V (W.heap.size+1+1) zA 129/\dH V (W.heap.size+1) (mA n) 129/\dH V W.heap.size (mA m) 129/\Below W.heap.size W V/\V.heap.size=W.heap.size+3:=⟨_,rfl,by simpa using dH.new ((W.alloc (.cells (mA m) 129)).alloc (.cells (mA n) 129)) zA 129,(by simpa using dH.new (W.alloc (.cells (mA m) 129)) (mA n) 129:dH _ _ _ _).alloc _,((dH.new W (mA m) 129).alloc _).alloc _,(((Below.refl _ W).alloc ai _).alloc (by simp) _).alloc (by simp;omega) _,by simp⟩
theorem R4 (aB aS aZ:Addr)(m n:Mv)(r:Nat×Nat)(W:ag)(hE:E3 aB aS aZ W)(HC:Zm aB aS aZ m r):
  ax 145 #[mv m,mv n] W fun e w'=>(∃pb,W.heap.size<=pb/\e=.returned (.tuple #[mv .zero,.iface 113 (ay pb)])/\w'.cell? (ak pb 0)=some (aa r.2)/\w'.cell? (ak pb 1)=some (er aB aS aZ r.1))/\Below W.heap.size W w':=by
 have hF:∃V,(((W.alloc (.cells (mA m) 129)).alloc (.cells (mA n) 129)).alloc (.cells zA 129))=V/\dH V (W.heap.size+1+1) zA 129/\Below W.heap.size W V/\V.heap.size=W.heap.size+3:=⟨_,rfl,by simpa using dH.new ((W.alloc (.cells (mA m) 129)).alloc (.cells (mA n) 129)) zA 129,(((Below.refl _ W).alloc ai _).alloc (by simp) _).alloc (by simp;omega) _,by simp⟩;go_enter func145,ntmps145;go_wp2_with(go_at_call 200;obtain⟨V,hV,hB,hb,hz⟩:=hF;refine(HC _ (hV▸hE.below hb ai)).mono ?_;rw[hV];rintro e w1 ⟨⟨pb,hp,rfl,p0,p1⟩,hb1⟩;have hB1:=hB.below hb1 ai;obtain⟨oV,El,oZ,Em,pg,Eo,pz,Ep,uC,Iy,uD,Iz,uF,IG,uG,II,uH,IJ,uI,IK,je,qh,jf,qi⟩:=hB1.six);refine bodyPost_ret (v:=.tuple #[mv .zero,.iface 113 (ay pb)]) (by simp[results,results145,go_sem,Mv.zero,Fr.zero,oV,oZ,pg,pz,uC,uD,uF,uG,uH,uI,je,jf]) rfl ⟨⟨pb,by omega,rfl,?_,?_⟩,?_⟩
 ·exact(dP (p:=⟨pb,0,none⟩) (R:=W.heap.size+1+1) (by simp only;omega) zL 0 w1).trans p0
 ·exact(dP (p:=⟨pb,1,none⟩) (R:=W.heap.size+1+1) (by simp only;omega) zL 0 w1).trans p1
 ·exact aQ (R:=W.heap.size+1+1) (by omega) zL 0 (hb.trans (hb1.mono (by omega)))
theorem R5 (aB aS aZ:Addr)(m n:Mv)(r:Nat×Nat)(W:ag)(hE:E3 aB aS aZ W)(HF:Ai aB aS aZ m)(HC:Zm aB aS aZ n r):
  ax 145 #[mv m,mv n] W fun e w'=>(∃pb,W.heap.size<=pb/\e=.returned (.tuple #[mv .zero,.iface 113 (ay pb)])/\w'.cell? (ak pb 0)=some (aa r.2)/\w'.cell? (ak pb 1)=some (er aB aS aZ r.1))/\Below W.heap.size W w':=by
 have hF:∃V,(((W.alloc (.cells (mA m) 129)).alloc (.cells (mA n) 129)).alloc (.cells zA 129))=V/\dH V (W.heap.size+1+1) zA 129/\dH V (W.heap.size+1) (mA n) 129/\Below W.heap.size W V/\V.heap.size=W.heap.size+3:=⟨_,rfl,by simpa using dH.new ((W.alloc (.cells (mA m) 129)).alloc (.cells (mA n) 129)) zA 129,(by simpa using dH.new (W.alloc (.cells (mA m) 129)) (mA n) 129:dH _ _ _ _).alloc _,(((Below.refl _ W).alloc ai _).alloc (by simp) _).alloc (by simp;omega) _,by simp⟩;go_enter func145,ntmps145;go_wp2_with(first|(go_at_call_of 200 n.a.n;refine(HC _ (hE.below hb ai|>.below hb1 ai)).mono ?_;rintro e w2 ⟨⟨pb,hp,rfl,p0,p1⟩,hb2⟩;have hB2:=(hB.below hb1 ai).below hb2 ai;obtain⟨oV,El,oZ,Em,pg,Eo,pz,Ep,uC,Iy,uD,Iz,uF,IG,uG,II,uH,IJ,uI,IK,je,qh,jf,qi⟩:=hB2.six)|(go_at_call_of 200 m.a.n;obtain⟨V,hV,hB,BN,hb,hz⟩:=hF;refine(HF _ (hV▸hE.below hb ai)).mono ?_;rw[hV];rintro e w1 ⟨rfl,hb1⟩;have BN1:=BN.below hb1 ai;obtain⟨nc0,nc1,nc2,nc3,nc4,nc5,nc6,nc7,nc8,nc9,a6H,a6I⟩:=BN1.twelve));have hz1:=hb1.size;refine bodyPost_ret (v:=.tuple #[mv .zero,.iface 113 (ay pb)]) (by simp[results,results145,go_sem,Mv.zero,Fr.zero,oV,oZ,pg,pz,uC,uD,uF,uG,uH,uI,je,jf]) rfl ⟨⟨pb,by omega,rfl,?_,?_⟩,?_⟩
 ·exact(dP (p:=⟨pb,0,none⟩) (R:=W.heap.size+1+1) (by simp only;omega) zL 0 w2).trans p0
 ·exact(dP (p:=⟨pb,1,none⟩) (R:=W.heap.size+1+1) (by simp only;omega) zL 0 w2).trans p1
 ·exact aQ (R:=W.heap.size+1+1) (by omega) zL 0 ((hb.trans (hb1.mono (by omega))).trans (hb2.mono (by omega)))
theorem IL (aB aS aZ:Addr)(m n:Mv)(q1 q2 q3:Pt)(c1 c2 c3:Nat)(r:Mv)(ev:ah)(W:ag)(hE:E3 aB aS aZ W)(HFM:Ai aB aS aZ m)(Zc:Ai aB aS aZ n)
  (T1:∀b V,Wk aB aS aZ W b 0 V->ax 201 #[ay b,mv n,.agg #[aa m.a.n,aa m.a.d,aa m.b.n,aa m.b.d]] V fun e w'=>e=.returned (pv q1)/\Wk aB aS aZ W b c1 w'/\cK b V w')
  (T2:∀b V,Wk aB aS aZ W b c1 V->ax 201 #[ay b,mv n,.agg #[aa m.c.n,aa m.c.d,aa m.d.n,aa m.d.d]] V fun e w'=>e=.returned (pv q2)/\Wk aB aS aZ W b c2 w'/\cK b V w')
  (T3:∀b V,Wk aB aS aZ W b c2 V->ax 202 #[ay b,mv n,.agg #[aa m.e.n,aa m.e.d,aa m.f.n,aa m.f.d]] V fun e w'=>e=.returned (pv q3)/\Wk aB aS aZ W b c3 w'/\cK b V w')
  (HA:∀b V,Wk aB aS aZ W b c3 V->ax 203 #[ay b,.agg #[aa q1.x.n,aa q1.x.d,aa q1.y.n,aa q1.y.d,aa q2.x.n,aa q2.x.d,aa q2.y.n,aa q2.y.d,aa q3.x.n,aa q3.x.d,aa q3.y.n,aa q3.y.d]] V fun e w'=>e=.returned (.tuple #[mv r,ev])/\Below V.heap.size V w'):
  ax 145 #[mv m,mv n] W fun e w'=>e=.returned (.tuple #[mv r,ev])/\Below W.heap.size W w':=by
 have hF:=Vj m n W;go_enter func145,ntmps145;go_wp2_with(first|(go_at_call 203;clear dc0 dc1 dc2 dc3 dc4 dc5 dc6 dc7;refine(HA _ _ (hk5.alloc _)).mono ?_;rintro e w6 ⟨rfl,hb6⟩;have BR6:=(BR5.alloc _).below hb6 ai;have s6:=hb6.size;simp only[World.size_alloc] at s6;obtain⟨oV,El,oZ,Em,pg,Eo,pz,Ep,uC,Iy,uD,Iz,uF,IG,uG,II,uH,IJ,uI,IK,je,qh,jf,qi⟩:=BR6.six)|(go_at_call 202;clear cc0 cc1 cc2 cc3 cc4 cc5 cc6 cc7 cc8 cc9 aaB aaC aaD aaE aaF aaG;refine(T3 _ _ (hk4.alloc _)).mono ?_;rintro e w5 ⟨rfl,hk5,hu5⟩;have BR5:=(BR4.alloc _).upto hu5 n2;have BX5:=(BX4.alloc _).upto hu5 hk3.ne;have BY5:=(dH.new w4 #[aa q2.x.n,aa q2.x.d,aa q2.y.n,aa q2.y.d] 177).upto hu5 hk4.ne;have s5:=hu5.size;simp only[World.size_alloc] at s5;have dc0:=fun o=>au o (BX5.cell 0 _ rfl);have dc1:=fun o=>au o (BX5.cell 1 _ rfl);have dc2:=fun o=>au o (BX5.cell 2 _ rfl);have dc3:=fun o=>au o (BX5.cell 3 _ rfl);have dc4:=fun o=>au o (BY5.cell 0 _ rfl);have dc5:=fun o=>au o (BY5.cell 1 _ rfl);have dc6:=fun o=>au o (BY5.cell 2 _ rfl);have dc7:=fun o=>au o (BY5.cell 3 _ rfl))|(go_at_call_of 201 m.c.n;clear bc0 bc1 bc2 bc3 bc4 bc5 bc6 bc7 bc8 bc9 Zn Zo aaH aaI aaJ aaK;refine(T2 _ _ (hk3.alloc _)).mono ?_;rintro e w4 ⟨rfl,hk4,hu4⟩;have Ui:=(R6.alloc _).upto hu4 n1;have BM4:=(BM3.alloc _).upto hu4 n0;have BR4:=(YA.alloc _).upto hu4 n2;have BX4:=(dH.new w3 #[aa q1.x.n,aa q1.x.d,aa q1.y.n,aa q1.y.d] 177).upto hu4 hk3.ne;have s4:=hu4.size;simp only[World.size_alloc] at s4;have cc0:=fun o=>au o (Ui.cell 0 _ rfl);have cc1:=fun o=>au o (Ui.cell 1 _ rfl);have cc2:=fun o=>au o (Ui.cell 2 _ rfl);have cc3:=fun o=>au o (Ui.cell 3 _ rfl);have cc4:=fun o=>au o (Ui.cell 4 _ rfl);have cc5:=fun o=>au o (Ui.cell 5 _ rfl);have cc6:=fun o=>au o (Ui.cell 6 _ rfl);have cc7:=fun o=>au o (Ui.cell 7 _ rfl);have cc8:=fun o=>au o (Ui.cell 8 _ rfl);have cc9:=fun o=>au o (Ui.cell 9 _ rfl);have aaB:=fun o=>au o (Ui.cell 10 _ rfl);have aaC:=fun o=>au o (Ui.cell 11 _ rfl);have aaD:=fun o=>au o (BM4.cell 8 _ rfl);have aaE:=fun o=>au o (BM4.cell 9 _ rfl);have aaF:=fun o=>au o (BM4.cell 10 _ rfl);have aaG:=fun o=>au o (BM4.cell 11 _ rfl))|(go_at_call_of 201 m.a.n;clear ac0 ac1 ac2 ac3 ac4 ac5 ac6 ac7 ac8 ac9 R7 R8 a2V a2W a2X a2Y;refine(T1 w2.heap.size _ ⟨hE,HB2.alloc HB2.size _,HB2.size,bg rfl rfl,kH rfl⟩).mono ?_;rintro e w3 ⟨rfl,hk3,hu3⟩;have n0:W.heap.size≠w2.heap.size:=(by omega);have n1:W.heap.size+1≠w2.heap.size:=(by omega);have n2:W.heap.size+1+1≠w2.heap.size:=(by omega);have R6:=(R9.alloc _).upto hu3 n1;have BM3:=(GR.alloc _).upto hu3 n0;have YA:=(BR2.alloc _).upto hu3 n2;have s3:=hu3.size;simp only[World.size_alloc] at s3;have bc0:=fun o=>au o (R6.cell 0 _ rfl);have bc1:=fun o=>au o (R6.cell 1 _ rfl);have bc2:=fun o=>au o (R6.cell 2 _ rfl);have bc3:=fun o=>au o (R6.cell 3 _ rfl);have bc4:=fun o=>au o (R6.cell 4 _ rfl);have bc5:=fun o=>au o (R6.cell 5 _ rfl);have bc6:=fun o=>au o (R6.cell 6 _ rfl);have bc7:=fun o=>au o (R6.cell 7 _ rfl);have bc8:=fun o=>au o (R6.cell 8 _ rfl);have bc9:=fun o=>au o (R6.cell 9 _ rfl);have Zn:=fun o=>au o (R6.cell 10 _ rfl);have Zo:=fun o=>au o (R6.cell 11 _ rfl);have aaH:=fun o=>au o (BM3.cell 4 _ rfl);have aaI:=fun o=>au o (BM3.cell 5 _ rfl);have aaJ:=fun o=>au o (BM3.cell 6 _ rfl);have aaK:=fun o=>au o (BM3.cell 7 _ rfl))|(go_at_call_of 200 n.a.n;clear nc0 nc1 nc2 nc3 nc4 nc5 nc6 nc7 nc8 nc9 a6H a6I;refine(Zc _ (hE.below hb ai|>.below hb1 ai)).mono ?_;rintro e w2 ⟨rfl,hb2⟩;have R9:=BN1.below hb2 ai;have GR:=(BM.below hb1 ai).below hb2 ai;have BR2:=(BR.below hb1 ai).below hb2 ai;have s1:=hb1.size;have s2:=hb2.size;have HB2:=(hb.trans (hb1.mono (by omega))).trans (hb2.mono (by omega));have ac0:=fun o=>au o (R9.cell 0 _ rfl);have ac1:=fun o=>au o (R9.cell 1 _ rfl);have ac2:=fun o=>au o (R9.cell 2 _ rfl);have ac3:=fun o=>au o (R9.cell 3 _ rfl);have ac4:=fun o=>au o (R9.cell 4 _ rfl);have ac5:=fun o=>au o (R9.cell 5 _ rfl);have ac6:=fun o=>au o (R9.cell 6 _ rfl);have ac7:=fun o=>au o (R9.cell 7 _ rfl);have ac8:=fun o=>au o (R9.cell 8 _ rfl);have ac9:=fun o=>au o (R9.cell 9 _ rfl);have R7:=fun o=>au o (R9.cell 10 _ rfl);have R8:=fun o=>au o (R9.cell 11 _ rfl);have a2V:=fun o=>au o (GR.cell 0 _ rfl);have a2W:=fun o=>au o (GR.cell 1 _ rfl);have a2X:=fun o=>au o (GR.cell 2 _ rfl);have a2Y:=fun o=>au o (GR.cell 3 _ rfl))|(go_at_call_of 200 m.a.n;obtain⟨V,hV,BR,BN,BM,hb,hz⟩:=hF;refine(HFM _ (hV▸hE.below hb ai)).mono ?_;rw[hV];rintro e w1 ⟨rfl,hb1⟩;have BN1:=BN.below hb1 ai;obtain⟨nc0,nc1,nc2,nc3,nc4,nc5,nc6,nc7,nc8,nc9,a6H,a6I⟩:=BN1.twelve))
 refine bodyPost_ret (v:=.tuple #[mv r,ev]) (by simp[results,results145,go_sem,oV,oZ,pg,pz,uC,uD,uF,uG,uH,uI,je,jf]) rfl ⟨rfl,?_⟩;exact aQ (R:=W.heap.size+1+1) (by omega) [aa r.a.n,aa r.a.d,aa r.b.n,aa r.b.d,aa r.c.n,aa r.c.d,aa r.d.n,aa r.d.d,aa r.e.n,aa r.e.d,aa r.f.n,aa r.f.d] 0 ((hk5.hb.alloc hk5.hb.size _).trans (hb6.mono (by simp;omega)))
theorem Aj (aB aS aZ:Addr)(p:Pt)(hi:p.i64)(W:ag)(hE:E3 aB aS aZ W):
  ax 241 #[.func (.func 274) #[] #[.pointer (some ⟨W.heap.size+1+1,0,none⟩),.pointer (some ⟨W.heap.size+1,0,none⟩)]] (((W.alloc (.cells #[aa p.x.n,aa p.x.d,aa p.y.n,aa p.y.d] 127)).alloc (.cells #[aa 6] 3)).alloc (.cells #[.slice (some ⟨W.heap.size,0,none⟩) 2 2] 322)) fun e w'=>(∃v,e=.returned v/\Told aB aS aZ W.heap.size (aK 6 p.list) v w')/\Below W.heap.size W w':=by
 have hr:=Va p hi W 127 3 322;have hz:(((W.alloc (.cells #[aa p.x.n,aa p.x.d,aa p.y.n,aa p.y.d] 127)).alloc (.cells #[aa 6] 3)).alloc (.cells #[.slice (some ⟨W.heap.size,0,none⟩) 2 2] 322)).heap.size=W.heap.size+3:=by simp
 have hb:Below W.heap.size W (((W.alloc (.cells #[aa p.x.n,aa p.x.d,aa p.y.n,aa p.y.d] 127)).alloc (.cells #[aa 6] 3)).alloc (.cells #[.slice (some ⟨W.heap.size,0,none⟩) 2 2] 322)):=(((Below.refl _ W).alloc ai _).alloc (by simp) _).alloc (by simp;omega) _;rw[<- hz] at hr;refine(su aB aS aZ _ _ _ _ _ _ _ hr (hE.below hb ai)).mono ?_;rintro e w' ⟨⟨v,he,ht⟩,hb'⟩;exact⟨⟨v,he,ht.mono (by omega)⟩,hb.trans (hb'.mono (by omega))⟩
def a1I (aB aS aZ:Addr)(p:Pt):Prop:=∀W,E3 aB aS aZ W->ax 241 #[.func (.func 274) #[] #[.pointer (some ⟨W.heap.size+1+1,0,none⟩),.pointer (some ⟨W.heap.size+1,0,none⟩)]] (((W.alloc (.cells #[aa p.x.n,aa p.x.d,aa p.y.n,aa p.y.d] 127)).alloc (.cells #[aa 6] 3)).alloc (.cells #[.slice (some ⟨W.heap.size,0,none⟩) 2 2] 322)) fun e w'=>e=.returned .nilIface/\Below W.heap.size W w'
def a6L (aB aS aZ:Addr)(p:Pt)(r:Nat×Nat):Prop:=∀W,E3 aB aS aZ W->ax 241 #[.func (.func 274) #[] #[.pointer (some ⟨W.heap.size+1+1,0,none⟩),.pointer (some ⟨W.heap.size+1,0,none⟩)]] (((W.alloc (.cells #[aa p.x.n,aa p.x.d,aa p.y.n,aa p.y.d] 127)).alloc (.cells #[aa 6] 3)).alloc (.cells #[.slice (some ⟨W.heap.size,0,none⟩) 2 2] 322)) fun e w'=>(∃pb,W.heap.size<=pb/\e=.returned (.iface 113 (ay pb))/\w'.cell? (ak pb 0)=some (aa r.2)/\w'.cell? (ak pb 1)=some (er aB aS aZ r.1))/\Below W.heap.size W w'
theorem a1J {aB aS aZ:Addr}{p:Pt}(hi:p.i64)(h:(aK 6 p.list).1=0):a1I aB aS aZ p:=fun W hE=>(Aj aB aS aZ p hi W hE).mono fun e w' ⟨⟨v,he,ht⟩,hb⟩=>by
 rcases ht with ht|ht
 ·exact⟨by rw[he,ht.2],hb⟩
 ·exact(ht.1 h).elim
theorem aaM {aB aS aZ:Addr}{p:Pt}(hi:p.i64)(h:(aK 6 p.list).1≠0):a6L aB aS aZ p (aK 6 p.list):=fun W hE=>(Aj aB aS aZ p hi W hE).mono fun e w' ⟨⟨v,he,ht⟩,hb⟩=>by
 rcases ht with ht|⟨_,_,pb,h1,h2,h3,h4⟩
 ·exact(h ht.1).elim
 ·exact⟨⟨pb,h1,by rw[he,h2],h3,h4⟩,hb⟩
theorem Mg (m:Mv)(p:Pt)(W:ag):∃V,(((W.alloc (.cells (mA m) 129)).alloc (.cells #[aa p.x.n,aa p.x.d,aa p.y.n,aa p.y.d] 177)).alloc (.cells #[aa 0,aa 0,aa 0,aa 0] 177))=V/\dH V (W.heap.size+1+1) #[aa 0,aa 0,aa 0,aa 0] 177/\dH V (W.heap.size+1) #[aa p.x.n,aa p.x.d,aa p.y.n,aa p.y.d] 177/\dH V W.heap.size (mA m) 129/\Below W.heap.size W V/\V.heap.size=W.heap.size+3:=⟨_,rfl,by simpa using dH.new ((W.alloc (.cells (mA m) 129)).alloc (.cells #[aa p.x.n,aa p.x.d,aa p.y.n,aa p.y.d] 177)) #[aa 0,aa 0,aa 0,aa 0] 177,(by simpa using dH.new (W.alloc (.cells (mA m) 129)) #[aa p.x.n,aa p.x.d,aa p.y.n,aa p.y.d] 177:dH _ _ _ _).alloc _,((dH.new W (mA m) 129).alloc _).alloc _,(((Below.refl _ W).alloc ai _).alloc (by simp) _).alloc (by simp;omega) _,by simp⟩
theorem Zp (aB aS aZ:Addr)(m:Mv)(p:Pt)(r:Nat×Nat)(W:ag)(hE:E3 aB aS aZ W)(HC:Zm aB aS aZ m r):
  ax 229 #[mv m,pv p] W fun e w'=>(∃pb,W.heap.size<=pb/\e=.returned (.tuple #[pv .zero,.iface 113 (ay pb)])/\w'.cell? (ak pb 0)=some (aa r.2)/\w'.cell? (ak pb 1)=some (er aB aS aZ r.1))/\Below W.heap.size W w':=by
 have hF:=Mg m p W;go_enter func229,ntmps229;go_wp2_with(go_at_call 200;obtain⟨V,hV,hB,BP,BM,hb,hz⟩:=hF;refine(HC _ (hV▸hE.below hb ai)).mono ?_;rw[hV];rintro e w1 ⟨⟨pb,hp,rfl,p0,p1⟩,hb1⟩;have hB1:=hB.below hb1 ai;have oV:=hB1.cell 0 _ rfl;have El:=hB1.dD 0 _ rfl;have oZ:=hB1.cell 1 _ rfl;have Em:=hB1.dD 1 _ rfl;have pg:=hB1.cell 2 _ rfl;have Eo:=hB1.dD 2 _ rfl;have pz:=hB1.cell 3 _ rfl;have Ep:=hB1.dD 3 _ rfl);refine bodyPost_ret (v:=.tuple #[pv .zero,.iface 113 (ay pb)]) (by simp[results,results229,go_sem,Pt.zero,Fr.zero,oV,oZ,pg,pz]) rfl ⟨⟨pb,by omega,rfl,?_,?_⟩,?_⟩
 ·exact(dP (p:=⟨pb,0,none⟩) (R:=W.heap.size+1+1) (by simp only;omega) [aa 0,aa 0,aa 0,aa 0] 0 w1).trans p0
 ·exact(dP (p:=⟨pb,1,none⟩) (R:=W.heap.size+1+1) (by simp only;omega) [aa 0,aa 0,aa 0,aa 0] 0 w1).trans p1
 ·exact aQ (R:=W.heap.size+1+1) (by omega) [aa 0,aa 0,aa 0,aa 0] 0 (hb.trans (hb1.mono (by omega)))
theorem Zq (aB aS aZ:Addr)(m:Mv)(p:Pt)(r:Nat×Nat)(W:ag)(hE:E3 aB aS aZ W)(HFM:Ai aB aS aZ m)(HP:a6L aB aS aZ p r):
  ax 229 #[mv m,pv p] W fun e w'=>(∃pb,W.heap.size<=pb/\e=.returned (.tuple #[pv .zero,.iface 113 (ay pb)])/\w'.cell? (ak pb 0)=some (aa r.2)/\w'.cell? (ak pb 1)=some (er aB aS aZ r.1))/\Below W.heap.size W w':=by
 have hF:=Mg m p W;have HN:=nN;go_enter func229,ntmps229;go_wp2_with(first|(go_at_call 241;refine HP1.mono ?_;rintro e w2 ⟨⟨pb,hp,rfl,p0,p1⟩,hb2⟩;have hB2:=(BR.below hb1 ai).below hb2 ai;have oV:=hB2.cell 0 _ rfl;have El:=hB2.dD 0 _ rfl;have oZ:=hB2.cell 1 _ rfl;have Em:=hB2.dD 1 _ rfl;have pg:=hB2.cell 2 _ rfl;have Eo:=hB2.dD 2 _ rfl;have pz:=hB2.cell 3 _ rfl;have Ep:=hB2.dD 3 _ rfl)|(go_at_call 256;refine(HN 6 (.slice (some ⟨w1.heap.size,0,none⟩) 2 2) _ _ _ rfl _).mono ?_;rintro e wn ⟨rfl,rfl⟩;have HP1:=HP w1 (hE.below hb ai|>.below hb1 ai);simp only[World.size_alloc])|(go_at_call 200;obtain⟨V,hV,BR,BP,BM,hb,hz⟩:=hF;refine(HFM _ (hV▸hE.below hb ai)).mono ?_;rw[hV];rintro e w1 ⟨rfl,hb1⟩;have YB:=BP.below hb1 ai;have s1:=hb1.size;have pc0:=YB.cell 0 _ rfl;have pc1:=YB.cell 1 _ rfl;have pc2:=YB.cell 2 _ rfl;have pc3:=YB.cell 3 _ rfl));refine bodyPost_ret (v:=.tuple #[pv .zero,.iface 113 (ay pb)]) (by simp[results,results229,go_sem,Pt.zero,Fr.zero,oV,oZ,pg,pz]) rfl ⟨⟨pb,by omega,rfl,?_,?_⟩,?_⟩
 ·exact(dP (p:=⟨pb,0,none⟩) (R:=W.heap.size+1+1) (by simp only;omega) [aa 0,aa 0,aa 0,aa 0] 0 w2).trans p0
 ·exact(dP (p:=⟨pb,1,none⟩) (R:=W.heap.size+1+1) (by simp only;omega) [aa 0,aa 0,aa 0,aa 0] 0 w2).trans p1
 ·exact aQ (R:=W.heap.size+1+1) (by omega) [aa 0,aa 0,aa 0,aa 0] 0 ((hb.trans (hb1.mono (by omega))).trans (hb2.mono (by omega)))
theorem Vk (aB aS aZ:Addr)(m:Mv)(p q:Pt)(c:Nat)(r:Pt)(ev:ah)(hc:(c=0/\r=q/\ev=.nilIface)\/(c=2/\r=.zero/\ev=.iface 390 (.pointer (some aB))))(W:ag)(hE:E3 aB aS aZ W)(HFM:Ai aB aS aZ m)(HP:a1I aB aS aZ p)
  (T:∀b V,Wk aB aS aZ W b 0 V->ax 202 #[ay b,mv m,pv p] V fun e w'=>e=.returned (.agg #[aa q.x.n,aa q.x.d,aa q.y.n,aa q.y.d])/\Wk aB aS aZ W b c w'/\cK b V w'):
  ax 229 #[mv m,pv p] W fun e w'=>e=.returned (.tuple #[pv r,ev])/\Below W.heap.size W w':=by
 have hF:=Mg m p W;have HN:=nN;go_enter func229,ntmps229;go_upto_region 9 with(first|(go_at_call 202;clear ac0 ac1 ac2 ac3 ac4 ac5 ac6 ac7 ac8 ac9 R7 R8 a2V a2W a2X a2Y;refine(T _ _ ⟨hE,HB2.alloc HB2.size _,HB2.size,bg rfl rfl,kH rfl⟩).mono ?_;rintro e w3 ⟨rfl,hk3,hu3⟩;have n2:W.heap.size+1+1≠w2.heap.size:=(by omega);have YA:=((BR2.alloc _).upto hu3 n2).alloc (.cells #[aa q.x.n,aa q.x.d,aa q.y.n,aa q.y.d] 177);have oV:=YA.cell 0 _ rfl;have El:=YA.dD 0 _ rfl;have oZ:=YA.cell 1 _ rfl;have Em:=YA.dD 1 _ rfl;have pg:=YA.cell 2 _ rfl;have Eo:=YA.dD 2 _ rfl;have pz:=YA.cell 3 _ rfl;have Ep:=YA.dD 3 _ rfl;have hk4:=hk3.alloc (.cells #[aa q.x.n,aa q.x.d,aa q.y.n,aa q.y.d] 177);have kc:=hk4.cell;have nq:¬w2.heap.size=W.heap.size+1+1:=(by omega);have nq':¬W.heap.size+1+1=w2.heap.size:=(by omega);have s3:=hu3.size;simp only[World.size_alloc] at s3;have nr:¬W.heap.size+1+1=w3.heap.size:=(by omega);have nr':¬w3.heap.size=W.heap.size+1+1:=(by omega))|(go_at_call 241;refine HP1.mono ?_;rintro e w2 ⟨rfl,hb2⟩;clear pc0 pc1 pc2 pc3 HP1;have GR:=(BM.below hb1 ai).below hb2 ai;have BP2:=YB.below hb2 ai;have BR2:=(BR.below hb1 ai).below hb2 ai;have s2:=hb2.size;have HB2:=(hb.trans (hb1.mono (by omega))).trans (hb2.mono (by omega));have ac0:=fun o=>au o (GR.cell 0 _ rfl);have ac1:=fun o=>au o (GR.cell 1 _ rfl);have ac2:=fun o=>au o (GR.cell 2 _ rfl);have ac3:=fun o=>au o (GR.cell 3 _ rfl);have ac4:=fun o=>au o (GR.cell 4 _ rfl);have ac5:=fun o=>au o (GR.cell 5 _ rfl);have ac6:=fun o=>au o (GR.cell 6 _ rfl);have ac7:=fun o=>au o (GR.cell 7 _ rfl);have ac8:=fun o=>au o (GR.cell 8 _ rfl);have ac9:=fun o=>au o (GR.cell 9 _ rfl);have R7:=fun o=>au o (GR.cell 10 _ rfl);have R8:=fun o=>au o (GR.cell 11 _ rfl);have a2V:=fun o=>au o (BP2.cell 0 _ rfl);have a2W:=fun o=>au o (BP2.cell 1 _ rfl);have a2X:=fun o=>au o (BP2.cell 2 _ rfl);have a2Y:=fun o=>au o (BP2.cell 3 _ rfl))|(go_at_call 256;refine(HN 6 (.slice (some ⟨w1.heap.size,0,none⟩) 2 2) _ _ _ rfl _).mono ?_;rintro e wn ⟨rfl,rfl⟩;have HP1:=HP w1 (hE.below hb ai|>.below hb1 ai);simp only[World.size_alloc])|(go_at_call 200;obtain⟨V,hV,BR,BP,BM,hb,hz⟩:=hF;refine(HFM _ (hV▸hE.below hb ai)).mono ?_;rw[hV];rintro e w1 ⟨rfl,hb1⟩;have YB:=BP.below hb1 ai;have s1:=hb1.size;have pc0:=YB.cell 0 _ rfl;have pc1:=YB.cell 1 _ rfl;have pc2:=YB.cell 2 _ rfl;have pc3:=YB.cell 3 _ rfl))
 rcases hc with⟨rfl,rfl,rfl⟩|⟨rfl,rfl,rfl⟩
 ·simp only[pO] at kc;go_wp2;refine bodyPost_ret (v:=.tuple #[pv r,.nilIface]) (by simp[results,results229,go_sem,oV,oZ,pg,pz]) rfl ⟨rfl,?_⟩;exact aQ (R:=W.heap.size+1+1) (by omega) [aa r.x.n,aa r.x.d,aa r.y.n,aa r.y.d] 0 hk4.hb
 ·simp only[Vb] at kc;go_upto_region 10 with fail;go_region;go_wp2;refine bodyPost_ret (v:=.tuple #[pv .zero,.iface 390 (.pointer (some aB))]) (by simp[results,results229,go_sem,Pt.zero,Fr.zero,oV,oZ,pg,pz]) rfl ⟨rfl,?_⟩;exact aQ (R:=W.heap.size+1+1) (by omega) [aa 0,aa 0,aa 0,aa 0] 0 (below_drewN hk4.hb 1)
theorem gG (n:Int)(W:ag):ax 99 #[aa n] W fun e w'=>e=.returned (.agg #[aa n,aa 1])/\Below W.heap.size W w':=by
 go_enter func99,ntmps99;go_wp2;refine bodyPost_ret (v:=.agg #[aa n,aa 1]) (by simp[results,results99,go_sem]) rfl ⟨rfl,?_⟩;exact(Below.refl _ W).alloc ai _
theorem nO (W:ag):ax 52 #[] W fun e w'=>e=.returned (mv .one)/\Below W.heap.size W w':=by
 obtain⟨K1,K2,K3,K4,K5,K6⟩:=And.intro gG (And.intro gG (And.intro gG (And.intro gG (And.intro gG gG))));have B0:=dH.new W zA 129;have L0:=(Below.refl W.heap.size W).alloc ai (.cells zA 129);go_enter func52,ntmps52;go_wp2_with(first|(go_at_call 99;refine(K1 _ _).mono ?_;clear K1;rintro e w1 ⟨rfl,hb1⟩;have B1:=B0.below hb1 ai;have L1:=L0.trans (hb1.mono L0.size))|(go_at_call 99;refine(K2 _ _).mono ?_;clear K2;rintro e w2 ⟨rfl,hb2⟩;have B2:=B1.below hb2 ai;have L2:=L1.trans (hb2.mono L1.size))|(go_at_call 99;refine(K3 _ _).mono ?_;clear K3;rintro e w3 ⟨rfl,hb3⟩;have B3:=B2.below hb3 ai;have L3:=L2.trans (hb3.mono L2.size))|(go_at_call 99;refine(K4 _ _).mono ?_;clear K4;rintro e w4 ⟨rfl,hb4⟩;have B4:=B3.below hb4 ai;have L4:=L3.trans (hb4.mono L3.size))|(go_at_call 99;refine(K5 _ _).mono ?_;clear K5;rintro e w5 ⟨rfl,hb5⟩;have B5:=B4.below hb5 ai;have L5:=L4.trans (hb5.mono L4.size))|(go_at_call 99;refine(K6 _ _).mono ?_;clear K6;rintro e w6 ⟨rfl,hb6⟩;have B6:=B5.below hb6 ai;have L6:=L5.trans (hb6.mono L5.size);obtain⟨oV,El,oZ,Em,pg,Eo,pz,Ep,uC,Iy,uD,Iz,uF,IG,uG,II,uH,IJ,uI,IK,je,qh,jf,qi⟩:=B6.six));refine bodyPost_ret (v:=mv .one) (by simp[results,results52,go_sem,Mv.one,Fr.whole,oV,oZ,pg,pz,uC,uD,uF,uG,uH,uI,je,jf]) rfl ⟨rfl,?_⟩;exact aQ (R:=W.heap.size) ai oL 0 L6
theorem IM (m n:Mv):∃q1 c1 q2 c2 q3 c3,bI 0 n ⟨m.a,m.b⟩=(q1,c1)/\bI c1 n ⟨m.c,m.d⟩=(q2,c2)/\bZ c2 n ⟨m.e,m.f⟩=(q3,c3)/\thenS m n=(⟨q1.x,q1.y,q2.x,q2.y,q3.x,q3.y⟩,c3):=by
 unfold thenS;generalize bI 0 n ⟨m.a,m.b⟩=t;obtain⟨q1,c1⟩:=t;generalize hu:bI (q1,c1).2 n ⟨m.c,m.d⟩=u;obtain⟨q2,c2⟩:=u;generalize hv:bZ (q2,c2).2 n ⟨m.e,m.f⟩=v;obtain⟨q3,c3⟩:=v;exact⟨q1,c1,q2,c2,q3,c3,rfl,hu,hv,rfl⟩
theorem Ak (aB aS aZ:Addr){m n:Mv}(om:m.ok)(on:n.ok)(W:ag):∃q1 c1 q2 c2 q3 c3,thenS m n=(⟨q1.x,q1.y,q2.x,q2.y,q3.x,q3.y⟩,c3)/\
  (∀b V,Wk aB aS aZ W b 0 V->ax 201 #[ay b,mv n,.agg #[aa m.a.n,aa m.a.d,aa m.b.n,aa m.b.d]] V fun e w'=>e=.returned (pv q1)/\Wk aB aS aZ W b c1 w'/\cK b V w')/\
  (∀b V,Wk aB aS aZ W b c1 V->ax 201 #[ay b,mv n,.agg #[aa m.c.n,aa m.c.d,aa m.d.n,aa m.d.d]] V fun e w'=>e=.returned (pv q2)/\Wk aB aS aZ W b c2 w'/\cK b V w')/\
  (∀b V,Wk aB aS aZ W b c2 V->ax 202 #[ay b,mv n,.agg #[aa m.e.n,aa m.e.d,aa m.f.n,aa m.f.d]] V fun e w'=>e=.returned (pv q3)/\Wk aB aS aZ W b c3 w'/\cK b V w'):=by
 obtain⟨q1,c1,q2,c2,q3,c3,e1,e2,e3,e4⟩:=IM m n;obtain⟨k1,_⟩:=iW (c:=0) (m:=n) (p:=⟨m.a,m.b⟩) (.inl rfl) on ⟨om.1,om.2.1⟩;rw[e1] at k1;obtain⟨k2,_⟩:=iW (m:=n) (p:=⟨m.c,m.d⟩) k1 on ⟨om.2.2.1,om.2.2.2.1⟩;rw[e2] at k2;have T1:=fun b V h=>tV (aB:=aB) (aS:=aS) (aZ:=aZ) (w0:=W) (b:=b) (c:=0) (m:=n) (p:=⟨m.a,m.b⟩) (.inl rfl) on ⟨om.1,om.2.1⟩ V h;have T2:=fun b V h=>tV (aB:=aB) (aS:=aS) (aZ:=aZ) (w0:=W) (b:=b) (m:=n) (p:=⟨m.c,m.d⟩) k1 on ⟨om.2.2.1,om.2.2.2.1⟩ V h;have T3:=fun b V h=>wT (aB:=aB) (aS:=aS) (aZ:=aZ) (w0:=W) (b:=b) (m:=n) (p:=⟨m.e,m.f⟩) k2 on ⟨om.2.2.2.2.1,om.2.2.2.2.2⟩ V h;rw[e1] at T1;rw[e2] at T2;rw[e3] at T3;exact⟨q1,c1,q2,c2,q3,c3,e4,T1,T2,T3⟩
theorem OT {aB aS aZ:Addr}{m n x:Mv}(hm:m.i64)(hn:n.i64)(h:oO m n=(x,.no))(W:ag)(hE:E3 aB aS aZ W):
  ax 145 #[mv m,mv n] W fun e w'=>e=.returned (.tuple #[mv x,.nilIface])/\Below W.heap.size W w':=by
 unfold oO at h;by_cases h1:(aK 0 m.list).1=0
 ·rw[if_neg (by simp[h1])] at h;by_cases h2:(aK 0 n.list).1=0
  ·rw[if_neg (by simp[h2])] at h;by_cases h3:(thenS m n).2=0
   ·rw[if_pos h3] at h;have hx:(thenS m n).1=x:=by simpa using congrArg Prod.fst h
    obtain⟨q1,c1,q2,c2,q3,c3,e4,T1,T2,T3⟩:=Ak aB aS aZ (oN h1) (oN h2) W;rw[e4] at hx h3;obtain rfl:c3=0:=h3;subst hx;exact IL aB aS aZ m n q1 q2 q3 c1 c2 _ _ _ W hE (uX hm h1) (uX hn h2) T1 T2 T3 fun b V h=>QZ ⟨q1.x,q1.y,q2.x,q2.y,q3.x,q3.y⟩ V h
   ·rw[if_neg h3] at h;cases h
  ·rw[if_pos h2] at h;cases h
 ·rw[if_pos h1] at h;cases h
theorem OU {aB aS aZ:Addr}{m n:Mv}(hm:m.i64)(hn:n.i64)(h:∀x,oO m n≠(x,.no))(W:ag)(hE:E3 aB aS aZ W):
  ax 145 #[mv m,mv n] W fun e w'=>(∃v,e=.returned (.tuple #[mv .zero,v])/\(oO m n).2.is aB aS aZ W.heap.size v w')/\Below W.heap.size W w':=by
 unfold oO at h⊢;by_cases h1:(aK 0 m.list).1=0
 ·rw[if_neg (by simp[h1])] at h⊢;by_cases h2:(aK 0 n.list).1=0
  ·rw[if_neg (by simp[h2])] at h⊢;by_cases h3:(thenS m n).2=0
   ·rw[if_pos h3] at h;exact(h _ rfl).elim
   ·rw[if_neg h3];have h4:(thenS m n).2=2:=(wQ (oN h1) (oN h2)).1.resolve_left h3;obtain⟨q1,c1,q2,c2,q3,c3,e4,T1,T2,T3⟩:=Ak aB aS aZ (oN h1) (oN h2) W;rw[e4] at h4;obtain rfl:c3=2:=h4;refine(IL aB aS aZ m n q1 q2 q3 c1 c2 _ _ _ W hE (uX hm h1) (uX hn h2) T1 T2 T3 fun b V h=>Mf ⟨q1.x,q1.y,q2.x,q2.y,q3.x,q3.y⟩ V h).mono ?_;rintro e w' ⟨he,hb⟩;exact⟨⟨_,he,rfl,rfl⟩,hb⟩
  ·rw[if_pos h2];refine(R5 aB aS aZ m n _ W hE (uX hm h1) (a2T hn h2)).mono ?_;rintro e w' ⟨⟨pb,q1,he,q2,q3⟩,hb⟩;exact⟨⟨_,he,Fy h2,pb,q1,rfl,q2,q3⟩,hb⟩
 ·rw[if_pos h1];refine(R4 aB aS aZ m n _ W hE (a2T hm h1)).mono ?_;rintro e w' ⟨⟨pb,q1,he,q2,q3⟩,hb⟩;exact⟨⟨_,he,Fy h1,pb,q1,rfl,q2,q3⟩,hb⟩
theorem a6M {aB aS aZ:Addr}{m:Mv}{p q:Pt}(hm:m.i64)(hp:p.i64)(h:atR m p=(q,.no))(W:ag)(hE:E3 aB aS aZ W):
  ax 229 #[mv m,pv p] W fun e w'=>e=.returned (.tuple #[pv q,.nilIface])/\Below W.heap.size W w':=by
 unfold atR at h;by_cases h1:(aK 0 m.list).1=0
 ·rw[if_neg (by simp[h1])] at h;by_cases h2:(aK 6 p.list).1=0
  ·rw[if_neg (by simp[h2])] at h;by_cases h3:(bZ 0 m p).2=0
   ·rw[if_pos h3] at h;obtain rfl:(bZ 0 m p).1=q:=by simpa using congrArg Prod.fst h
    have T:=fun b V h=>wT (aB:=aB) (aS:=aS) (aZ:=aZ) (w0:=W) (b:=b) (c:=0) (.inl rfl) (oN h1) (OQ h2) V h;rw[h3] at T;exact Vk aB aS aZ m p _ _ _ _ (.inl ⟨rfl,rfl,rfl⟩) W hE (uX hm h1) (a1J hp h2) T
   ·rw[if_neg h3] at h;cases h
  ·rw[if_pos h2] at h;cases h
 ·rw[if_pos h1] at h;cases h
theorem a6N {aB aS aZ:Addr}{m:Mv}{p:Pt}(hm:m.i64)(hp:p.i64)(h:∀q,atR m p≠(q,.no))(W:ag)(hE:E3 aB aS aZ W):
  ax 229 #[mv m,pv p] W fun e w'=>(∃v,e=.returned (.tuple #[pv .zero,v])/\(atR m p).2.is aB aS aZ W.heap.size v w')/\Below W.heap.size W w':=by
 unfold atR at h⊢;by_cases h1:(aK 0 m.list).1=0
 ·rw[if_neg (by simp[h1])] at h⊢;by_cases h2:(aK 6 p.list).1=0
  ·rw[if_neg (by simp[h2])] at h⊢;by_cases h3:(bZ 0 m p).2=0
   ·rw[if_pos h3] at h;exact(h _ rfl).elim
   ·rw[if_neg h3];have h4:(bZ 0 m p).2=2:=(tQ (c:=0) (.inl rfl) (oN h1) (OQ h2)).1.resolve_left h3;have T:=fun b V h=>wT (aB:=aB) (aS:=aS) (aZ:=aZ) (w0:=W) (b:=b) (c:=0) (.inl rfl) (oN h1) (OQ h2) V h;rw[h4] at T;refine(Vk aB aS aZ m p _ _ _ _ (.inr ⟨rfl,rfl,rfl⟩) W hE (uX hm h1) (a1J hp h2) T).mono ?_;rintro e w' ⟨he,hb⟩;exact⟨⟨_,he,rfl,rfl⟩,hb⟩
  ·rw[if_pos h2];refine(Zq aB aS aZ m p _ W hE (uX hm h1) (aaM hp h2)).mono ?_;rintro e w' ⟨⟨pb,q1,he,q2,q3⟩,hb⟩;exact⟨⟨_,he,Fy h2,pb,q1,rfl,q2,q3⟩,hb⟩
 ·rw[if_pos h1];refine(Zp aB aS aZ m p _ W hE (a2T hm h1)).mono ?_;rintro e w' ⟨⟨pb,q1,he,q2,q3⟩,hb⟩;exact⟨⟨_,he,Fy h1,pb,q1,rfl,q2,q3⟩,hb⟩
end
section
open Go.RowKit
theorem fT (P:Program)(w:ag)(a:Addr)(m:Mode)(f:Fn)(x y:Array ah):(store a (.func f x y) m).run P w=stored P w a (.func f x y) m:=run_store P w a _ m rfl
attribute [local go_sem] fT
abbrev Es:aD:=⟨#[109,111,118,101]⟩
abbrev wU:aD:=⟨#[115,99,97,108,101]⟩
abbrev yj:aD:=⟨#[116,117,114,110]⟩
abbrev Et:aD:=⟨#[115,107,101,119]⟩
theorem qj (k:Nat)(W:ag):ax 265 #[.func (.func k) #[] #[]] W fun e w'=>e=.returned (.func (.func 284) #[] #[ay W.heap.size])/\w'=W.alloc (.cells #[.func (.func k) #[] #[]] 363):=by
 go_enter func265,ntmps265;go_wp2;go_ret;exact⟨rfl,rfl⟩
theorem IQ (W:ag):ax 239 #[.string Es] W fun e w'=>(∃B,W.heap.size<=B/\e=.returned (.tuple #[.agg #[aa 2,.func (.func 284) #[] #[ay B]],.bool true])/\w'.cell? (ak B 0)=some (.func (.func 266) #[] #[]))/\Below W.heap.size W w':=by
 have HO:=qj;go_enter func239,ntmps239;go_wp2_with(go_at_call 265;refine(HO _ _).mono ?_;rintro e w1 ⟨rfl,rfl⟩);refine bodyPost_ret (v:=.tuple #[.agg #[aa 2,.func (.func 284) #[] #[.pointer (some ⟨W.heap.size+1,0,none⟩)]],.bool true]) (by simp[results,results239,go_sem]) rfl ⟨⟨W.heap.size+1,by omega,rfl,bg (by simp) rfl⟩,?_⟩;exact((Below.refl _ W).alloc ai _).alloc (by simp) _
theorem Fz (W:ag):ax 239 #[.string wU] W fun e w'=>(∃B,W.heap.size<=B/\e=.returned (.tuple #[.agg #[aa 2,.func (.func 284) #[] #[ay B]],.bool true])/\w'.cell? (ak B 0)=some (.func (.func 267) #[] #[]))/\Below W.heap.size W w':=by
 have HO:=qj;go_enter func239,ntmps239;go_wp2_with(go_at_call 265;refine(HO _ _).mono ?_;rintro e w1 ⟨rfl,rfl⟩);refine bodyPost_ret (v:=.tuple #[.agg #[aa 2,.func (.func 284) #[] #[.pointer (some ⟨W.heap.size+1,0,none⟩)]],.bool true]) (by simp[results,results239,go_sem]) rfl ⟨⟨W.heap.size+1,by omega,rfl,bg (by simp) rfl⟩,?_⟩;exact((Below.refl _ W).alloc ai _).alloc (by simp) _
theorem IU (W:ag):ax 239 #[.string Et] W fun e w'=>(∃B,W.heap.size<=B/\e=.returned (.tuple #[.agg #[aa 1,.func (.func 284) #[] #[ay B]],.bool true])/\w'.cell? (ak B 0)=some (.func (.func 269) #[] #[]))/\Below W.heap.size W w':=by
 have HO:=qj;go_enter func239,ntmps239;go_wp2_with(go_at_call 265;refine(HO _ _).mono ?_;rintro e w1 ⟨rfl,rfl⟩);refine bodyPost_ret (v:=.tuple #[.agg #[aa 1,.func (.func 284) #[] #[.pointer (some ⟨W.heap.size+1,0,none⟩)]],.bool true]) (by simp[results,results239,go_sem]) rfl ⟨⟨W.heap.size+1,by omega,rfl,bg (by simp) rfl⟩,?_⟩;exact((Below.refl _ W).alloc ai _).alloc (by simp) _
theorem qm (W:ag):ax 239 #[.string yj] W fun e w'=>e=.returned (.tuple #[.agg #[aa 1,.func (.func 268) #[] #[]],.bool true])/\Below W.heap.size W w':=by
 go_enter func239,ntmps239;go_wp2;refine bodyPost_ret (v:=.tuple #[.agg #[aa 1,.func (.func 268) #[] #[]],.bool true]) (by simp[results,results239,go_sem]) rfl ⟨rfl,?_⟩;exact(Below.refl _ W).alloc ai _
end
section
theorem Vl {P:List UInt8->Prop}(h0:P [])(h1:∀l c,P l->P (l++[c]))(l:List UInt8):P l:=by
 have h:∀r:List UInt8,P r.reverse:=by
  intro r
  induction r with
  |nil=>simpa using h0
  |cons c r ih=>rw[List.reverse_cons];exact h1 _ _ ih
 simpa using h l.reverse
def digit (c:UInt8):Bool:=decide (48<=c.toNat) && decide (c.toNat<=57)
def val (l:List UInt8):Nat:=l.foldl (fun n c=>n*10+(c.toNat-48)) 0
def fits (l:List UInt8):Bool:=decide (1<=l.length) && decide (l.length<=10) && !(decide (1<l.length) && decide (l.head? =some 48))
def uY (l:List UInt8):Bool:=fits l && l.all digit
theorem IW (l:List UInt8)(c:UInt8):val (l++[c])=val l*10+(c.toNat-48):=by simp[val]
theorem IY (l:List UInt8)(c:UInt8):(l++[c]).all digit=(l.all digit && digit c):=by simp
theorem wV {c:UInt8}:digit c=true↔48<=c.toNat/\c.toNat<=57:=by simp[digit]
theorem Vm:∀(l:List UInt8),l.all digit=true->val l<10 ^ l.length:=by
 refine Vl ?_ ?_
 ·intro _;simp[val]
 ·intro l c ih h;rw[IY,Bool.and_eq_true] at h;obtain⟨h1,h2⟩:=wV.1 h.2;have:=ih h.1;rw[IW,List.length_append,List.length_singleton,Nat.pow_succ];omega
theorem OV {k:Nat}(h:k<=10):10 ^ k<=10000000000:=by
 have:10 ^ k<=10 ^ 10:=Nat.pow_le_pow_right (by decide) h;omega
theorem a3a {l:List UInt8}(h:l.all digit=true)(hl:l.length<=10):val l<10000000000:=Nat.lt_of_lt_of_le (Vm l h) (OV hl)
theorem Al {l:List UInt8}:fits l=true↔1<=l.length/\l.length<=10/\¬(1<l.length/\l.head? =some 48):=by
 simp only[fits,Bool.and_eq_true,decide_eq_true_eq,Bool.not_eq_true',Bool.and_eq_false_iff,decide_eq_false_iff_not];constructor
 ·rintro⟨⟨a,b⟩,c⟩;exact⟨a,b,fun h=>by rcases c with c|c;exact c h.1;exact c h.2⟩
 ·rintro⟨a,b,c⟩;exact⟨⟨a,b⟩,by by_cases h:1<l.length;exact Or.inr (fun e=>c ⟨h,e⟩);exact Or.inl h⟩
theorem IZ (s:aD)(k:Nat)(h:k<s.size):s.data.toList.take (k+1)=s.data.toList.take k++[s[k]]:=by
 rw[List.take_succ_eq_append_getElem (by simpa using h)];rfl
end
end Go.Proofs.YtjfiehbcamfdfaaGreatDoor

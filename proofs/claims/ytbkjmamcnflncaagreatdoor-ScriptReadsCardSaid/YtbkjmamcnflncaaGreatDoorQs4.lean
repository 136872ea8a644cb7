import Derived.Test.YtbkjmamcnflncaaGreatDoorQs3
namespace Go.Proofs.YtbkjmamcnflncaaGreatDoor
open Go.Proofs.Tryz
set_option maxHeartbeats 8000000
open Go.RowKit
variable{j s u z C D E H:au}
theorem a8Y {b Q:Nat}{W A B:ah}{m:Mv}{q:Pt}(a:fo b A B)(c:W.heap.size≠b)(d:Q≠b)(h:(λw'=>w'.cell? ⟨W.heap.size,8,none⟩=some (ag m.e.n)/\w'.cell? ⟨W.heap.size,9,none⟩=some (ag m.e.d)/\w'.cell? ⟨W.heap.size,10,none⟩=some (ag m.f.n)/\w'.cell? ⟨W.heap.size,11,none⟩=some (ag m.f.d)/\w'.cell? (aH Q 0)=some (ag q.x.n)/\w'.cell? (aH Q 1)=some (ag q.x.d)/\w'.cell? (aH Q 2)=some (ag q.y.n)/\w'.cell? (aH Q 3)=some (ag q.y.d)) A):(λw'=>w'.cell? ⟨W.heap.size,8,none⟩=some (ag m.e.n)/\w'.cell? ⟨W.heap.size,9,none⟩=some (ag m.e.d)/\w'.cell? ⟨W.heap.size,10,none⟩=some (ag m.f.n)/\w'.cell? ⟨W.heap.size,11,none⟩=some (ag m.f.d)/\w'.cell? (aH Q 0)=some (ag q.x.n)/\w'.cell? (aH Q 1)=some (ag q.x.d)/\w'.cell? (aH Q 2)=some (ag q.y.n)/\w'.cell? (aH Q 3)=some (ag q.y.d)) B:=by
 obtain⟨e,f,g,i,j,k,l,n⟩:=h;exact⟨a.cell e c,a.cell f c,a.cell g c,a.cell i c,a.cell j d,a.cell k d,a.cell l d,a.cell n d⟩
theorem aa9 {Q R:Nat}{W w:ah}{m:Mv}{q:Pt}{c d e f:au}(h:(λw'=>w'.cell? ⟨W.heap.size,8,none⟩=some (ag m.e.n)/\w'.cell? ⟨W.heap.size,9,none⟩=some (ag m.e.d)/\w'.cell? ⟨W.heap.size,10,none⟩=some (ag m.f.n)/\w'.cell? ⟨W.heap.size,11,none⟩=some (ag m.f.d)/\w'.cell? (aH Q 0)=some (ag q.x.n)/\w'.cell? (aH Q 1)=some (ag q.x.d)/\w'.cell? (aH Q 2)=some (ag q.y.n)/\w'.cell? (aH Q 3)=some (ag q.y.d)) w)(a:R≠W.heap.size)(b:R≠Q):(λw'=>w'.cell? ⟨W.heap.size,8,none⟩=some (ag m.e.n)/\w'.cell? ⟨W.heap.size,9,none⟩=some (ag m.e.d)/\w'.cell? ⟨W.heap.size,10,none⟩=some (ag m.f.n)/\w'.cell? ⟨W.heap.size,11,none⟩=some (ag m.f.d)/\w'.cell? (aH Q 0)=some (ag q.x.n)/\w'.cell? (aH Q 1)=some (ag q.x.d)/\w'.cell? (aH Q 2)=some (ag q.y.n)/\w'.cell? (aH Q 3)=some (ag q.y.d)) ((((w.setCell ⟨R,0,none⟩ c).setCell ⟨R,1,none⟩ d).setCell ⟨R,2,none⟩ e).setCell ⟨R,3,none⟩ f):=by
 obtain⟨g,i,j,k,l,n,o,p⟩:=h;exact⟨(bN _ _ _ _ a).trans ((bN _ _ _ _ a).trans ((bN _ _ _ _ a).trans ((bN _ _ _ _ a).trans g))),(bN _ _ _ _ a).trans ((bN _ _ _ _ a).trans ((bN _ _ _ _ a).trans ((bN _ _ _ _ a).trans i))),(bN _ _ _ _ a).trans ((bN _ _ _ _ a).trans ((bN _ _ _ _ a).trans ((bN _ _ _ _ a).trans j))),(bN _ _ _ _ a).trans ((bN _ _ _ _ a).trans ((bN _ _ _ _ a).trans ((bN _ _ _ _ a).trans k))),(bN _ _ _ _ b).trans ((bN _ _ _ _ b).trans ((bN _ _ _ _ b).trans ((bN _ _ _ _ b).trans l))),(bN _ _ _ _ b).trans ((bN _ _ _ _ b).trans ((bN _ _ _ _ b).trans ((bN _ _ _ _ b).trans n))),(bN _ _ _ _ b).trans ((bN _ _ _ _ b).trans ((bN _ _ _ _ b).trans ((bN _ _ _ _ b).trans o))),(bN _ _ _ _ b).trans ((bN _ _ _ _ b).trans ((bN _ _ _ _ b).trans ((bN _ _ _ _ b).trans p)))⟩
theorem XO (aB aS aZ:Addr)(w0:ah)(b:Nat)(m:Mv)(p q:Pt)(k l:Fr)(c A B C:Nat)(W:ah)(h:Wk aB aS aZ w0 b c W)
  (H:∀W,Wk aB aS aZ w0 b c W->aJ 265 #[aI b,mv m,pv p] W λe w'=>e=ax (.agg #[ag q.x.n,ag q.x.d,ag q.y.n,ag q.y.d])/\Wk aB aS aZ w0 b A w'/\fo b W w')
  (I:XN aB aS aZ w0 b 320 A q.x m.e k B) (J:XN aB aS aZ w0 b 320 B q.y m.f l C):
  aJ 266 #[aI b,mv m,pv p] W λe w'=>e=ax (.agg #[ag k.n,ag k.d,ag l.n,ag l.d])/\Wk aB aS aZ w0 b C w'/\fo b W w':=by
 have a:=aR h.cell;simp only at a;have n:W.heap.size≠b:=aa;have K:=h.hb.size;have hF:∃V,(((W.alloc (ai (mA m) 165)).alloc (ai #[ag p.x.n,ag p.x.d,ag p.y.n,ag p.y.d] 233)).alloc (ai #[ag 0,ag 0,ag 0,ag 0] 233))=V/\Head W m p V/\Wk aB aS aZ w0 b c V/\fo b W V:=⟨_,rfl,Head.new W m p,((h.alloc _).alloc _).alloc _,(((fo.refl b W).alloc _).alloc _).alloc _⟩;go_enter func266,ntmps266;go_wp2_with(go_at_call 265;obtain⟨V,D,E,L,M⟩:=hF;refine(H _ (D▸L)).mono ?_;rw[D];rintro e d ⟨rfl,F,t⟩);have o:=(E.upto t a).upto ((fo.refl b d).alloc (ai #[ag q.x.n,ag q.x.d,ag q.y.n,ag q.y.d] 233)) a|>.upto (fo.drew b _ 1) a
 have u:=(F.alloc (ai #[ag q.x.n,ag q.x.d,ag q.y.n,ag q.y.d] 233)).drew 1;have r:=F.ne;have N:=((M.trans t).alloc (ai #[ag q.x.n,ag q.x.d,ag q.y.n,ag q.y.d] 233)).trans (fo.drew b _ 1);have O:=(E.upto t a).sz;have hS:(λw'=>w'.cell? ⟨W.heap.size,8,none⟩=some (ag m.e.n)/\w'.cell? ⟨W.heap.size,9,none⟩=some (ag m.e.d)/\w'.cell? ⟨W.heap.size,10,none⟩=some (ag m.f.n)/\w'.cell? ⟨W.heap.size,11,none⟩=some (ag m.f.d)/\w'.cell? ⟨d.heap.size,0,none⟩=some (ag q.x.n)/\w'.cell? ⟨d.heap.size,1,none⟩=some (ag q.x.d)/\w'.cell? ⟨d.heap.size,2,none⟩=some (ag q.y.n)/\w'.cell? ⟨d.heap.size,3,none⟩=some (ag q.y.d)) ((d.alloc (ai #[ag q.x.n,ag q.x.d,ag q.y.n,ag q.y.d] 233)).drewN 1):=⟨o.c8,o.c9,o.c10,o.c11,dG rfl rfl,dG rfl rfl,dG rfl rfl,dG rfl rfl⟩;have w:W.heap.size+1+1≠W.heap.size:=aa;have x:W.heap.size+1+1≠d.heap.size:=aa
 go_region_held3 (λw'=>w'.cell? ⟨W.heap.size,8,none⟩=some (ag m.e.n)/\w'.cell? ⟨W.heap.size,9,none⟩=some (ag m.e.d)/\w'.cell? ⟨W.heap.size,10,none⟩=some (ag m.f.n)/\w'.cell? ⟨W.heap.size,11,none⟩=some (ag m.f.d)/\w'.cell? ⟨d.heap.size,0,none⟩=some (ag q.x.n)/\w'.cell? ⟨d.heap.size,1,none⟩=some (ag q.x.d)/\w'.cell? ⟨d.heap.size,2,none⟩=some (ag q.y.n)/\w'.cell? ⟨d.heap.size,3,none⟩=some (ag q.y.d)) (first|assumption|exact aa9 fC w x|go_keep) (first|(go_at_call_of 328 m.f.n;refine(J _ y).mono ?_;rintro e w2 ⟨rfl,z,i⟩;have P:=a8Y i n r fC;have Q:=R.trans i;have g:=S.upto i a;obtain⟨T,U,X,Y⟩:=And.intro g.r0 (And.intro g.r1 (And.intro g.r2 g.r3));obtain⟨f0,f1,f2,f3⟩:=And.intro g.f0 (And.intro g.f1 (And.intro g.f2 g.f3)))|(go_at_call_of 328 m.e.n;refine(I _ u).mono ?_;rintro e w1 ⟨rfl,y,j⟩;have Z:=a8Y j n r fC;have R:=N.trans j;have S:=o.upto j a;skip))
 go_wp2;refine bodyPost_ret (v:=.agg #[ag k.n,ag k.d,ag l.n,ag l.d]) (by simp[results,results266,go_sem,T,U,X,Y]) rfl ⟨rfl,?_,?_⟩
 .have f:w0.heap.size<=W.heap.size+1+1:=aa;have s:W.heap.size+1+1≠b:=aa;exact(((z.store f s _ _).store f s _ _).store f s _ _).store f s _ _
 .have f:W.heap.size<=W.heap.size+1+1:=aa;exact(((Q.store f _ _).store f _ _).store f _ _).store f _ _
theorem lW {x:Fr}(h:x.ok):x.i64:=jy h
theorem O8:Fr.zero.i64:=⟨⟨aC,aC⟩,⟨aC,aC⟩⟩
theorem Good.i64 {a:Op4}{F:Rat->Rat->Rat}(g:Good a F){c:Nat}{x y:Fr}(d:c=0->x.ok)(e:c=0->y.ok):(xV a c x y).1.i64:=by
 by_cases b:c=0
 .subst b;rcases g.two x y (d rfl) (e rfl) with h|h
  .have:=g.val x y (a x.n x.d y.n y.d).n (a x.n x.d y.n y.d).d (by rw[<- h]);simp only[xV,if_pos];exact lW this.2.2.1
  .simp only[xV,if_pos,h];exact O8
 .simp only[xV,if_neg b];exact O8
theorem Good.code {a:Op4}{F:Rat->Rat->Rat}(g:Good a F){x y:Fr}(b:x.ok)(c:y.ok):(a x.n x.d y.n y.d).c=0\/(a x.n x.d y.n y.d).c=2:=by
 rcases g.two x y b c with h|h
 .exact .inl h
 .grind
theorem JR {aB aS aZ:Addr}{w0:ah}{b c:Nat}{a x d y:Fr}(hc:c=0\/c=2)(f:a.ok)(g:x.ok)(h:d.ok)(i:y.ok):
  ∃j k l m,XN aB aS aZ w0 b 329 c a x j k/\XN aB aS aZ w0 b 329 k d y l m/\XN aB aS aZ w0 b 320 m j l (Bb c a x d y).1 (Bb c a x d y).2:=by
 obtain⟨n,p⟩:=jF.step hc (λ_=>f) (λ_=>g);obtain⟨q,o⟩:=jF.step n (λ_=>h) (λ_=>i);refine⟨_,_,_,_,VG hc (lW f) (lW g) (λ_=>jF.code f g),VG n (lW h) (lW i) (λ_=>jF.code h i),?_⟩;exact LJ q (jF.i64 (λ_=>f) (λ_=>g)) (jF.i64 (λ_=>h) (λ_=>i)) (λe=>mQ.code (p (o e).1).2.1 (o e).2.1)
theorem yF {aB aS aZ:Addr}{w0:ah}{b c:Nat}{m:Mv}{p:Pt}(hc:c=0\/c=2)(a:m.ok)(hp:p.ok)(W:ah)(h:Wk aB aS aZ w0 b c W):
  aJ 265 #[aI b,mv m,pv p] W λe w'=>e=ax (pv (dW c m p).1)/\Wk aB aS aZ w0 b (dW c m p).2 w'/\fo b W w':=by
 obtain⟨d,f,g,i,j,k,l⟩:=JR (aB:=aB) (aS:=aS) (aZ:=aZ) (w0:=w0) (b:=b) hc a.1 hp.1 a.2.2.1 hp.2;obtain⟨n,o,q,r,s,t,u⟩:=JR (aB:=aB) (aS:=aS) (aZ:=aZ) (w0:=w0) (b:=b) (zG hc a.1 hp.1 a.2.2.1 hp.2).1 a.2.1 hp.1 a.2.2.2.1 hp.2;exact Tf aB aS aZ w0 b m p d g _ n q _ c f i _ o r _ W h j k l s t u
theorem Bi {aB aS aZ:Addr}{w0:ah}{b c:Nat}{m:Mv}{p:Pt}(hc:c=0\/c=2)(a:m.ok)(hp:p.ok)(W:ah)(h:Wk aB aS aZ w0 b c W):
  aJ 266 #[aI b,mv m,pv p] W λe w'=>e=ax (pv (fe c m p).1)/\Wk aB aS aZ w0 b (fe c m p).2 w'/\fo b W w':=by
 obtain⟨f,d⟩:=lY hc a hp;have i:=λW h=>yF (aB:=aB) (aS:=aS) (aZ:=aZ) (w0:=w0) (b:=b) hc a hp W h;have g:(dW c m p).1.x.i64/\(dW c m p).1.y.i64:=by
  obtain⟨l,n⟩:=jF.step hc (λ_=>a.1) (λ_=>hp.1);obtain⟨v,j⟩:=jF.step l (λ_=>a.2.2.1) (λ_=>hp.2);obtain⟨o,_⟩:=zG hc a.1 hp.1 a.2.2.1 hp.2;obtain⟨q,r⟩:=jF.step o (λ_=>a.2.1) (λ_=>hp.1);obtain⟨_,k⟩:=jF.step q (λ_=>a.2.2.2.1) (λ_=>hp.2);exact⟨mQ.i64 (λe=>(n (j e).1).2.1) (λe=>(j e).2.1),mQ.i64 (λe=>(r (k e).1).2.1) (λe=>(k e).2.1)⟩
 unfold fe;generalize dW c m p=t at f d i g⊢;obtain⟨s,u⟩:=mQ.step f (x:=t.1.x) (y:=m.e) (λe=>(d e).2.1.1) (λ_=>a.2.2.2.2.1);exact XO aB aS aZ w0 b m p t.1 _ _ c t.2 _ _ W h i (LJ f g.1 (lW a.2.2.2.2.1) (λe=>mQ.code (d e).2.1.1 a.2.2.2.2.1)) (LJ s g.2 (lW a.2.2.2.2.2) (λe=>mQ.code (d (u e).1).2.1.2 a.2.2.2.2.2))
theorem XP {aB aS aZ:Addr}{w0:ah}{b:Nat}(m:Mv)(W:ah)(h:Wk aB aS aZ w0 b 0 W):
  aJ 267 #[aI b,mv m] W λe w'=>e=ax (aF #[mv m,aU])/\aD W w':=by
 have a:=(h.alloc (ai (mA m) 165)).alloc (ai zA 165);have c:=a.cell;rw[vG] at c;clear a;go_enter func267,ntmps267;go_wp2;refine bodyPost_ret (v:=aF #[mv m,aU]) (by simp[results,results267,go_sem]) rfl ⟨rfl,?_⟩;exact((aQ _ W).alloc ay _).alloc aG _
theorem Ti {aB aS aZ:Addr}{w0:ah}{b:Nat}(m:Mv)(W:ah)(h:Wk aB aS aZ w0 b 2 W):
  aJ 267 #[aI b,mv m] W λe w'=>e=ax (aF #[mv .zero,er aB aS aZ 2])/\aD W w':=by
 have c:=(h.alloc (ai (mA m) 165)).alloc (ai zA 165);have d:=c.cell;rw[a0O] at d;have a:=aR h.cell;simp only at a;clear c;go_enter func267,ntmps267;go_wp2;go_region;go_wp2;refine bodyPost_ret (v:=aF #[mv .zero,aP 453 (.pointer (some aB))]) (by simp[results,results267,go_sem,Mv.zero,Fr.zero]) rfl ⟨rfl,?_⟩;exact below_drewN (((aQ _ W).alloc ay _).alloc aG _) 1
structure gy (w:ah)(R:Nat)(cs:Array au)(t:TypeId):Prop where
 h:w.heap[R]? =some (ai cs t)
theorem gy.cell {w:ah}{R:Nat}{cs:Array au}{t:TypeId}(h:gy w R cs t)(i:Nat)(v:au)(a:cs[i]? =some v):w.cell? (aH R i)=some v:=by simp[World.cell?,h.h,a]
theorem gy.eY {w:ah}{R:Nat}{cs:Array au}{t:TypeId}(h:gy w R cs t)(i:Nat)(v:au)(a:cs[i]? =some v):w.frozen? ⟨R,i,none⟩=false:=by
 have:=h.cell i v a;simp[World.frozen?,h.h]
theorem gy.six {w:ah}{R:Nat}{t:TypeId}{a0 a1 a2 a3:au}(h:gy w R #[a0,a1,a2,a3,j,s,u,z,C,D,E,H] t):w.cell? (aH R 0)=some a0/\w.frozen? ⟨R,0,none⟩=false/\w.cell? (aH R 1)=some a1/\w.frozen? ⟨R,1,none⟩=false/\w.cell? (aH R 2)=some a2/\w.frozen? ⟨R,2,none⟩=false/\w.cell? (aH R 3)=some a3/\w.frozen? ⟨R,3,none⟩=false/\w.cell? (aH R 4)=some j/\w.frozen? ⟨R,4,none⟩=false/\w.cell? (aH R 5)=some s/\w.frozen? ⟨R,5,none⟩=false/\w.cell? (aH R 6)=some u/\w.frozen? ⟨R,6,none⟩=false/\w.cell? (aH R 7)=some z/\w.frozen? ⟨R,7,none⟩=false/\w.cell? (aH R 8)=some C/\w.frozen? ⟨R,8,none⟩=false/\w.cell? (aH R 9)=some D/\w.frozen? ⟨R,9,none⟩=false/\w.cell? (aH R 10)=some E/\w.frozen? ⟨R,10,none⟩=false/\w.cell? (aH R 11)=some H/\w.frozen? ⟨R,11,none⟩=false:=⟨h.cell 0 _ rfl,h.eY 0 _ rfl,h.cell 1 _ rfl,h.eY 1 _ rfl,h.cell 2 _ rfl,h.eY 2 _ rfl,h.cell 3 _ rfl,h.eY 3 _ rfl,h.cell 4 _ rfl,h.eY 4 _ rfl,h.cell 5 _ rfl,h.eY 5 _ rfl,h.cell 6 _ rfl,h.eY 6 _ rfl,h.cell 7 _ rfl,h.eY 7 _ rfl,h.cell 8 _ rfl,h.eY 8 _ rfl,h.cell 9 _ rfl,h.eY 9 _ rfl,h.cell 10 _ rfl,h.eY 10 _ rfl,h.cell 11 _ rfl,h.eY 11 _ rfl⟩
theorem gy.a0S {w:ah}{R:Nat}{t:TypeId}{a0 a1 a2 a3:au}(h:gy w R #[a0,a1,a2,a3,j,s,u,z,C,D,E,H] t):(∀o,(w.alloc o).cell? (aH R 0)=some a0)/\(∀o,(w.alloc o).frozen? ⟨R,0,none⟩=false)/\(∀o,(w.alloc o).cell? (aH R 1)=some a1)/\(∀o,(w.alloc o).frozen? ⟨R,1,none⟩=false)/\(∀o,(w.alloc o).cell? (aH R 2)=some a2)/\(∀o,(w.alloc o).frozen? ⟨R,2,none⟩=false)/\(∀o,(w.alloc o).cell? (aH R 3)=some a3)/\(∀o,(w.alloc o).frozen? ⟨R,3,none⟩=false)/\(∀o,(w.alloc o).cell? (aH R 4)=some j)/\(∀o,(w.alloc o).frozen? ⟨R,4,none⟩=false)/\(∀o,(w.alloc o).cell? (aH R 5)=some s)/\(∀o,(w.alloc o).frozen? ⟨R,5,none⟩=false)/\(∀o,(w.alloc o).cell? (aH R 6)=some u)/\(∀o,(w.alloc o).frozen? ⟨R,6,none⟩=false)/\(∀o,(w.alloc o).cell? (aH R 7)=some z)/\(∀o,(w.alloc o).frozen? ⟨R,7,none⟩=false)/\(∀o,(w.alloc o).cell? (aH R 8)=some C)/\(∀o,(w.alloc o).frozen? ⟨R,8,none⟩=false)/\(∀o,(w.alloc o).cell? (aH R 9)=some D)/\(∀o,(w.alloc o).frozen? ⟨R,9,none⟩=false)/\(∀o,(w.alloc o).cell? (aH R 10)=some E)/\(∀o,(w.alloc o).frozen? ⟨R,10,none⟩=false)/\(∀o,(w.alloc o).cell? (aH R 11)=some H)/\(∀o,(w.alloc o).frozen? ⟨R,11,none⟩=false):=⟨λo=>aL o (h.cell 0 _ rfl),λo=>gJ o (h.cell 0 _ rfl) (h.eY 0 _ rfl),λo=>aL o (h.cell 1 _ rfl),λo=>gJ o (h.cell 1 _ rfl) (h.eY 1 _ rfl),λo=>aL o (h.cell 2 _ rfl),λo=>gJ o (h.cell 2 _ rfl) (h.eY 2 _ rfl),λo=>aL o (h.cell 3 _ rfl),λo=>gJ o (h.cell 3 _ rfl) (h.eY 3 _ rfl),λo=>aL o (h.cell 4 _ rfl),λo=>gJ o (h.cell 4 _ rfl) (h.eY 4 _ rfl),λo=>aL o (h.cell 5 _ rfl),λo=>gJ o (h.cell 5 _ rfl) (h.eY 5 _ rfl),λo=>aL o (h.cell 6 _ rfl),λo=>gJ o (h.cell 6 _ rfl) (h.eY 6 _ rfl),λo=>aL o (h.cell 7 _ rfl),λo=>gJ o (h.cell 7 _ rfl) (h.eY 7 _ rfl),λo=>aL o (h.cell 8 _ rfl),λo=>gJ o (h.cell 8 _ rfl) (h.eY 8 _ rfl),λo=>aL o (h.cell 9 _ rfl),λo=>gJ o (h.cell 9 _ rfl) (h.eY 9 _ rfl),λo=>aL o (h.cell 10 _ rfl),λo=>gJ o (h.cell 10 _ rfl) (h.eY 10 _ rfl),λo=>aL o (h.cell 11 _ rfl),λo=>gJ o (h.cell 11 _ rfl) (h.eY 11 _ rfl)⟩
theorem gy.twelve {w:ah}{R:Nat}{t:TypeId}{a0 a1 a2 a3:au}(h:gy w R #[a0,a1,a2,a3,j,s,u,z,C,D,E,H] t):w.cell? (aH R 0)=some a0/\w.cell? (aH R 1)=some a1/\w.cell? (aH R 2)=some a2/\w.cell? (aH R 3)=some a3/\w.cell? (aH R 4)=some j/\w.cell? (aH R 5)=some s/\w.cell? (aH R 6)=some u/\w.cell? (aH R 7)=some z/\w.cell? (aH R 8)=some C/\w.cell? (aH R 9)=some D/\w.cell? (aH R 10)=some E/\w.cell? (aH R 11)=some H:=⟨h.cell 0 _ rfl,h.cell 1 _ rfl,h.cell 2 _ rfl,h.cell 3 _ rfl,h.cell 4 _ rfl,h.cell 5 _ rfl,h.cell 6 _ rfl,h.cell 7 _ rfl,h.cell 8 _ rfl,h.cell 9 _ rfl,h.cell 10 _ rfl,h.cell 11 _ rfl⟩
theorem gy.new (w:ah)(cs:Array au)(t:TypeId):gy (w.alloc (ai cs t)) w.heap.size cs t:=⟨eO w _⟩
theorem gy.lt {w:ah}{R:Nat}{cs:Array au}{t:TypeId}(h:gy w R cs t):R<w.heap.size:=(dZ.1 h.h).1
theorem gy.below {w w':ah}{B R:Nat}{cs:Array au}{t:TypeId}(h:gy w R cs t)(a:Below B w w')(b:w.heap.size<=B):gy w' R cs t:=⟨(a.block R (dP h.lt b)).trans h.h⟩
theorem gy.alloc {w:ah}{R:Nat}{cs:Array au}{t:TypeId}(h:gy w R cs t)(o:Obj):gy (w.alloc o) R cs t:=h.below ((aQ _ w).alloc ay o) ay
theorem gy.upto {w w':ah}{b R:Nat}{cs:Array au}{t:TypeId}(h:gy w R cs t)(a:fo b w w')(c:R≠b):gy w' R cs t:=⟨(a.block R h.lt c).trans h.h⟩
def put (w:ah)(R:Nat):Nat->List au->ah
 |_,[]=>w
 |o,v::a=>put (w.setCell ⟨R,o,none⟩ v) R (o+1) a
theorem cZ {B R:Nat}{A:ah}(a:B<=R):∀(vs:List au) (o:Nat) {w:ah},Below B A w->Below B A (put w R o vs)
 |[],_,_,h=>h
 |v::vs,o,_,h=>cZ a vs (o+1) (h.setCell a v)
theorem gQ {R:Nat}{p:Addr}(hp:p.block≠R):∀(vs:List au) (o:Nat) (w:ah),(put w R o vs).cell? p=w.cell? p
 |[],_,_=>rfl
 |_::vs,o,_=>(gQ hp vs (o+1) _).trans (bN _ _ _ _ (λe=>hp e.symm))
inductive Er where
 |no
 |bare (c:Nat)
 |fault (c i:Nat)
def Er.is (aB aS aZ:Addr)(B:Nat):Er->au->ah->Prop
 | .no,v,_=>v=aU
 | .bare c,v,_=>c=2/\v=er aB aS aZ 2
 | .fault c i,v,W=>(c=2\/c=3)/\∃a,B<=a/\v=aP 67 (aI a)/\W.cell? (aH a 0)=some (ag i)/\W.cell? (aH a 1)=some (er aB aS aZ c)
theorem ry:∀(l:List Fr) (i:Nat),(bJ i l).1=0->∀y∈l,fH y.n y.d=0
 |[],_,_,_,h=>by simp at h
 |x::r,i,h,y,a=>by
  unfold bJ at h;by_cases b:fH x.n x.d=0
  .rw[if_pos b] at h;rcases gD.1 a with rfl|a
   .exact b
   .exact ry r (i+1) h y a
  .grind
theorem uN {m:Mv}(h:(bJ 0 m.list).1=0):m.ok:=by
 have:=ry _ _ h;exact⟨this _ (by simp[Mv.list]),this _ (by simp[Mv.list]),this _ (by simp[Mv.list]),this _ (by simp[Mv.list]),this _ (by simp[Mv.list]),this _ (by simp[Mv.list])⟩
theorem VJ {p:Pt}(h:(bJ 6 p.list).1=0):p.ok:=by
 have:=ry _ _ h;exact⟨this _ (by simp[Pt.list]),this _ (by simp[Pt.list])⟩
def uO (m n:Mv):Mv×Er:=
 if(bJ 0 m.list).1≠0 then(.zero,.fault (bJ 0 m.list).1 (bJ 0 m.list).2) else if(bJ 0 n.list).1≠0 then(.zero,.fault (bJ 0 n.list).1 (bJ 0 n.list).2)
 else if(thenS m n).2=0 then((thenS m n).1,.no) else(.zero,.bare 2)
def atR (m:Mv)(p:Pt):Pt×Er:=
 if(bJ 0 m.list).1≠0 then(.zero,.fault (bJ 0 m.list).1 (bJ 0 m.list).2) else if(bJ 6 p.list).1≠0 then(.zero,.fault (bJ 6 p.list).1 (bJ 6 p.list).2)
 else if(fe 0 m p).2=0 then((fe 0 m p).1,.no) else(.zero,.bare 2)
def a5s (aB aS aZ:Addr)(m:Mv)(r:Nat×Nat):Prop:=∀W,E3 aB aS aZ W->aJ 264 #[mv m] W λe b=>(∃a,W.heap.size<=a/\e=ax (aP 67 (aI a))/\b.cell? (aH a 0)=some (ag r.2)/\b.cell? (aH a 1)=some (er aB aS aZ r.1))/\aD W b
def Fg (aB aS aZ:Addr)(m:Mv):Prop:=∀W,E3 aB aS aZ W->aJ 264 #[mv m] W λe a=>e=ax aU/\aD W a
theorem zI {aB aS aZ:Addr}{m:Mv}(hi:m.i64)(h:(bJ 0 m.list).1=0):Fg aB aS aZ m:=λW hE=>(Cz aB aS aZ m hi W hE).mono λe b ⟨⟨v,c,a⟩,d⟩=>by
 rcases a with a|a
 .grind
 .omega
theorem aaa {aB aS aZ:Addr}{m:Mv}(hi:m.i64)(h:(bJ 0 m.list).1≠0):a5s aB aS aZ m (bJ 0 m.list):=λW hE=>(Cz aB aS aZ m hi W hE).mono λe b ⟨⟨v,c,a⟩,d⟩=>by
 rcases a with a|⟨_,_,f,g,i,j,k⟩
 .omega
 .grind
theorem LK {l:List Fr}{i:Nat}(h:(bJ i l).1≠0):(bJ i l).1=2\/(bJ i l).1=3:=by
 induction l generalizing i with
 |nil=>exact(h rfl).elim
 |cons x r b=>
  unfold bJ at h⊢;by_cases a:fH x.n x.d=0
  .grind
  .rw[if_neg a] at h⊢;have:=gZ x.n x.d;simp only at h⊢;omega
theorem a0T (m n:Mv)(W:ah):∃V,(((W.alloc (ai (mA m) 165)).alloc (ai (mA n) 165)).alloc (ai zA 165))=V/\gy V (W.heap.size+1+1) zA 165/\gy V (W.heap.size+1) (mA n) 165/\gy V W.heap.size (mA m) 165/\aD W V/\V.heap.size=W.heap.size+3:=⟨_,rfl,by simpa using gy.new ((W.alloc (ai (mA m) 165)).alloc (ai (mA n) 165)) zA 165,(by simpa using gy.new (W.alloc (ai (mA m) 165)) (mA n) 165:gy _ _ _ _).alloc _,((gy.new W (mA m) 165).alloc _).alloc _,(((aQ _ W).alloc ay _).alloc aG _).alloc aX _,aG⟩
theorem XQ (aB aS aZ:Addr)(m n:Mv)(r:Nat×Nat)(W:ah)(hE:E3 aB aS aZ W)(h:a5s aB aS aZ m r):
  aJ 195 #[mv m,mv n] W λe w'=>(∃a,W.heap.size<=a/\e=ax (aF #[mv .zero,aP 67 (aI a)])/\w'.cell? (aH a 0)=some (ag r.2)/\w'.cell? (aH a 1)=some (er aB aS aZ r.1))/\aD W w':=by
 have hF:∃V,(((W.alloc (ai (mA m) 165)).alloc (ai (mA n) 165)).alloc (ai zA 165))=V/\gy V (W.heap.size+1+1) zA 165/\aD W V/\V.heap.size=W.heap.size+3:=⟨_,rfl,by simpa using gy.new ((W.alloc (ai (mA m) 165)).alloc (ai (mA n) 165)) zA 165,(((aQ _ W).alloc ay _).alloc aG _).alloc aX _,aG⟩;go_enter func195,ntmps195;go_wp2_with(go_at_call 264;obtain⟨V,d,i,f,C⟩:=hF;refine(h _ (d▸hE.below f ay)).mono ?_;rw[d];rintro e g ⟨⟨a,D,rfl,j,k⟩,b⟩;have c:=i.below b ay;obtain⟨l,E,o,F,q,H,s,I,t,J,u,K,w,L,x,M,y,N,z,O,A,P,B,Q⟩:=c.six);refine bodyPost_ret (v:=aF #[mv .zero,aP 67 (aI a)]) (by simp[results,results195,go_sem,Mv.zero,Fr.zero,l,o,q,s,t,u,w,x,y,z,A,B]) rfl ⟨⟨a,aa,rfl,?_,?_⟩,?_⟩
 .exact(gQ (p:=⟨a,0,none⟩) (R:=W.heap.size+1+1) fJ zL 0 g).trans j
 .exact(gQ (p:=⟨a,1,none⟩) (R:=W.heap.size+1+1) fJ zL 0 g).trans k
 .exact cZ (R:=W.heap.size+1+1) aa zL 0 (f.trans (b.mono aa))
theorem XR (aB aS aZ:Addr)(m n:Mv)(r:Nat×Nat)(W:ah)(hE:E3 aB aS aZ W)(j:Fg aB aS aZ m)(k:a5s aB aS aZ n r):
  aJ 195 #[mv m,mv n] W λe w'=>(∃b,W.heap.size<=b/\e=ax (aF #[mv .zero,aP 67 (aI b)])/\w'.cell? (aH b 0)=some (ag r.2)/\w'.cell? (aH b 1)=some (er aB aS aZ r.1))/\aD W w':=by
 have hF:∃V,(((W.alloc (ai (mA m) 165)).alloc (ai (mA n) 165)).alloc (ai zA 165))=V/\gy V (W.heap.size+1+1) zA 165/\gy V (W.heap.size+1) (mA n) 165/\aD W V/\V.heap.size=W.heap.size+3:=⟨_,rfl,by simpa using gy.new ((W.alloc (ai (mA m) 165)).alloc (ai (mA n) 165)) zA 165,(by simpa using gy.new (W.alloc (ai (mA m) 165)) (mA n) 165:gy _ _ _ _).alloc _,(((aQ _ W).alloc ay _).alloc aG _).alloc aX _,aG⟩;go_enter func195,ntmps195;go_wp2_with(first|(go_at_call_of 264 n.a.n;refine(k _ (hE.below d ay|>.below a ay)).mono ?_;rintro e h ⟨⟨b,X,rfl,l,o⟩,c⟩;have f:=(q.below a ay).below c ay;obtain⟨s,Y,t,Z,u,JV,w,JW,x,O9,y,Oa,z,Ob,A,Oc,B,Od,C,Oe,D,vH,E,vI⟩:=f.six)|(go_at_call_of 264 m.a.n;obtain⟨V,i,q,F,d,hz⟩:=hF;refine(j _ (i▸hE.below d ay)).mono ?_;rw[i];rintro e w1 ⟨rfl,a⟩;have g:=F.below a ay;obtain⟨H,I,J,K,L,M,N,O,P,Q,S,T⟩:=g.twelve));have U:=a.size;refine bodyPost_ret (v:=aF #[mv .zero,aP 67 (aI b)]) (by simp[results,results195,go_sem,Mv.zero,Fr.zero,s,t,u,w,x,y,z,A,B,C,D,E]) rfl ⟨⟨b,aa,rfl,?_,?_⟩,?_⟩
 .exact(gQ (p:=⟨b,0,none⟩) (R:=W.heap.size+1+1) fJ zL 0 h).trans l
 .exact(gQ (p:=⟨b,1,none⟩) (R:=W.heap.size+1+1) fJ zL 0 h).trans o
 .exact cZ (R:=W.heap.size+1+1) aa zL 0 ((d.trans (a.mono aa)).trans (c.mono aa))
theorem Og (aB aS aZ:Addr)(m n:Mv)(j k z:Pt)(c1 c2 c3:Nat)(r:Mv)(E:au)(W:ah)(hE:E3 aB aS aZ W)(F:Fg aB aS aZ m)(H:Fg aB aS aZ n)
  (T1:∀b V,Wk aB aS aZ W b 0 V->aJ 265 #[aI b,mv n,.agg #[ag m.a.n,ag m.a.d,ag m.b.n,ag m.b.d]] V λe w'=>e=ax (pv j)/\Wk aB aS aZ W b c1 w'/\fo b V w')
  (T2:∀b V,Wk aB aS aZ W b c1 V->aJ 265 #[aI b,mv n,.agg #[ag m.c.n,ag m.c.d,ag m.d.n,ag m.d.d]] V λe w'=>e=ax (pv k)/\Wk aB aS aZ W b c2 w'/\fo b V w')
  (T3:∀b V,Wk aB aS aZ W b c2 V->aJ 266 #[aI b,mv n,.agg #[ag m.e.n,ag m.e.d,ag m.f.n,ag m.f.d]] V λe w'=>e=ax (pv z)/\Wk aB aS aZ W b c3 w'/\fo b V w')
  (HA:∀b V,Wk aB aS aZ W b c3 V->aJ 267 #[aI b,.agg #[ag j.x.n,ag j.x.d,ag j.y.n,ag j.y.d,ag k.x.n,ag k.x.d,ag k.y.n,ag k.y.d,ag z.x.n,ag z.x.d,ag z.y.n,ag z.y.d]] V λe w'=>e=ax (aF #[mv r,E])/\aD V w'):
  aJ 195 #[mv m,mv n] W λe w'=>e=ax (aF #[mv r,E])/\aD W w':=by
 have hF:=a0T m n W;go_enter func195,ntmps195;go_wp2_with(first|(go_at_call 267;clear I J K L M N O P;refine(HA _ _ (u.alloc _)).mono ?_;rintro e w6 ⟨rfl,w⟩;have Q:=(S.alloc _).below w ay;have s6:=w.size;simp only[dK] at s6;obtain⟨uT,JS,uU,JU,uV,JV,uX,JW,zi,O9,zl,Oa,zm,Ob,zo,Oc,zq,Od,zu,Oe,mq,vH,mD,vI⟩:=Q.six)|(go_at_call 266;clear T U X Y Z a4 a5 a6 a7 a8 a9 b0 b1 b2 b3 b4;refine(T3 _ _ (A.alloc _)).mono ?_;rintro e w5 ⟨rfl,u,l⟩;have S:=(b5.alloc _).upto l n2;have p:=(b6.alloc _).upto l x.ne;have q:=(gy.new w4 #[ag k.x.n,ag k.x.d,ag k.y.n,ag k.y.d] 233).upto l A.ne;have s5:=l.size;simp only[dK] at s5;have I:=λo=>aL o (p.cell 0 _ rfl);have J:=λo=>aL o (p.cell 1 _ rfl);have K:=λo=>aL o (p.cell 2 _ rfl);have L:=λo=>aL o (p.cell 3 _ rfl);have M:=λo=>aL o (q.cell 0 _ rfl);have N:=λo=>aL o (q.cell 1 _ rfl);have O:=λo=>aL o (q.cell 2 _ rfl);have P:=λo=>aL o (q.cell 3 _ rfl))|(go_at_call_of 265 m.c.n;clear b7 b8 b9 c0 c4 c5 c6 c7 c8 c9 d0 d1 d2 d3 d4 d6;refine(T2 _ _ (x.alloc _)).mono ?_;rintro e w4 ⟨rfl,A,g⟩;have a:=(c.alloc _).upto g n1;have s:=(h.alloc _).upto g n0;have b5:=(d7.alloc _).upto g n2;have b6:=(gy.new w3 #[ag j.x.n,ag j.x.d,ag j.y.n,ag j.y.d] 233).upto g x.ne;have s4:=g.size;simp only[dK] at s4;have T:=λo=>aL o (a.cell 0 _ rfl);have U:=λo=>aL o (a.cell 1 _ rfl);have X:=λo=>aL o (a.cell 2 _ rfl);have Y:=λo=>aL o (a.cell 3 _ rfl);have Z:=λo=>aL o (a.cell 4 _ rfl);have a4:=λo=>aL o (a.cell 5 _ rfl);have a5:=λo=>aL o (a.cell 6 _ rfl);have a6:=λo=>aL o (a.cell 7 _ rfl);have a7:=λo=>aL o (a.cell 8 _ rfl);have a8:=λo=>aL o (a.cell 9 _ rfl);have a9:=λo=>aL o (a.cell 10 _ rfl);have b0:=λo=>aL o (a.cell 11 _ rfl);have b1:=λo=>aL o (s.cell 8 _ rfl);have b2:=λo=>aL o (s.cell 9 _ rfl);have b3:=λo=>aL o (s.cell 10 _ rfl);have b4:=λo=>aL o (s.cell 11 _ rfl))|(go_at_call_of 265 m.a.n;clear d8 d9 e0 e1 e2 e3 e4 e5 e6 e7 XU XV e8 e9 f0 f1;refine(T1 D.heap.size _ ⟨hE,y.alloc y.size _,y.size,dG rfl rfl,pI rfl⟩).mono ?_;rintro e w3 ⟨rfl,x,t⟩;have n0:W.heap.size≠D.heap.size:=aa;have n1:W.heap.size+1≠D.heap.size:=aa;have n2:W.heap.size+1+1≠D.heap.size:=aa;have c:=(d.alloc _).upto t n1;have h:=(B.alloc _).upto t n0;have d7:=(f2.alloc _).upto t n2;have s3:=t.size;simp only[dK] at s3;have b7:=λo=>aL o (c.cell 0 _ rfl);have b8:=λo=>aL o (c.cell 1 _ rfl);have b9:=λo=>aL o (c.cell 2 _ rfl);have c0:=λo=>aL o (c.cell 3 _ rfl);have c4:=λo=>aL o (c.cell 4 _ rfl);have c5:=λo=>aL o (c.cell 5 _ rfl);have c6:=λo=>aL o (c.cell 6 _ rfl);have c7:=λo=>aL o (c.cell 7 _ rfl);have c8:=λo=>aL o (c.cell 8 _ rfl);have c9:=λo=>aL o (c.cell 9 _ rfl);have d0:=λo=>aL o (c.cell 10 _ rfl);have d1:=λo=>aL o (c.cell 11 _ rfl);have d2:=λo=>aL o (h.cell 4 _ rfl);have d3:=λo=>aL o (h.cell 5 _ rfl);have d4:=λo=>aL o (h.cell 6 _ rfl);have d6:=λo=>aL o (h.cell 7 _ rfl))|(go_at_call_of 264 n.a.n;clear f3 f4 f5 f6 f7 f8 f9 g0 g1 g2 g3 g4;refine(H _ (hE.below hb ay|>.below f ay)).mono ?_;rintro e D ⟨rfl,i⟩;have d:=C.below i ay;have B:=(BM.below f ay).below i ay;have f2:=(BR.below f ay).below i ay;have s1:=f.size;have s2:=i.size;have y:=(hb.trans (f.mono aa)).trans (i.mono aa);have d8:=λo=>aL o (d.cell 0 _ rfl);have d9:=λo=>aL o (d.cell 1 _ rfl);have e0:=λo=>aL o (d.cell 2 _ rfl);have e1:=λo=>aL o (d.cell 3 _ rfl);have e2:=λo=>aL o (d.cell 4 _ rfl);have e3:=λo=>aL o (d.cell 5 _ rfl);have e4:=λo=>aL o (d.cell 6 _ rfl);have e5:=λo=>aL o (d.cell 7 _ rfl);have e6:=λo=>aL o (d.cell 8 _ rfl);have e7:=λo=>aL o (d.cell 9 _ rfl);have XU:=λo=>aL o (d.cell 10 _ rfl);have XV:=λo=>aL o (d.cell 11 _ rfl);have e8:=λo=>aL o (B.cell 0 _ rfl);have e9:=λo=>aL o (B.cell 1 _ rfl);have f0:=λo=>aL o (B.cell 2 _ rfl);have f1:=λo=>aL o (B.cell 3 _ rfl))|(go_at_call_of 264 m.a.n;obtain⟨V,hV,BR,BN,BM,hb,hz⟩:=hF;refine(F _ (hV▸hE.below hb ay)).mono ?_;rw[hV];rintro e w1 ⟨rfl,f⟩;have C:=BN.below f ay;obtain⟨f3,f4,f5,f6,f7,f8,f9,g0,g1,g2,g3,g4⟩:=C.twelve))
 refine bodyPost_ret (v:=aF #[mv r,E]) (by simp[results,results195,go_sem,uT,uU,uV,uX,zi,zl,zm,zo,zq,zu,mq,mD]) rfl ⟨rfl,?_⟩;exact cZ (R:=W.heap.size+1+1) aa [ag r.a.n,ag r.a.d,ag r.b.n,ag r.b.d,ag r.c.n,ag r.c.d,ag r.d.n,ag r.d.d,ag r.e.n,ag r.e.d,ag r.f.n,ag r.f.d] 0 ((u.hb.alloc u.hb.size _).trans (w.mono aX))
theorem Fh (aB aS aZ:Addr)(p:Pt)(hi:p.i64)(W:ah)(hE:E3 aB aS aZ W):
  aJ 326 #[.func (.func 366) #[] #[.pointer (some ⟨W.heap.size+1+1,0,none⟩),.pointer (some ⟨W.heap.size+1,0,none⟩)]] (((W.alloc (ai #[.int .i64 p.x.n,.int .i64 p.x.d,.int .i64 p.y.n,.int .i64 p.y.d] 163)).alloc (ai #[.int .i64 6] 3)).alloc (ai #[aj (some ⟨W.heap.size,0,none⟩) 2 2] 402)) λe w'=>(∃v,e=ax v/\Told aB aS aZ W.heap.size (bJ 6 p.list) v w')/\aD W w':=by
 have c:=a0N p hi W 163 3 402;have d:(((W.alloc (ai #[.int .i64 p.x.n,.int .i64 p.x.d,.int .i64 p.y.n,.int .i64 p.y.d] 163)).alloc (ai #[.int .i64 6] 3)).alloc (ai #[aj (some ⟨W.heap.size,0,none⟩) 2 2] 402)).heap.size=W.heap.size+3:=aG;have a:aD W (((W.alloc (ai #[.int .i64 p.x.n,.int .i64 p.x.d,.int .i64 p.y.n,.int .i64 p.y.d] 163)).alloc (ai #[.int .i64 6] 3)).alloc (ai #[aj (some ⟨W.heap.size,0,none⟩) 2 2] 402)):=(((aQ _ W).alloc ay _).alloc aG _).alloc aX _;rw[<- d] at c;refine(xX aB aS aZ _ _ _ _ _ _ _ c (hE.below a ay)).mono ?_;rintro e w' ⟨⟨v,f,g⟩,b⟩;exact⟨⟨v,f,g.mono a.size⟩,a.trans (b.mono a.size)⟩
def a8Z (aB aS aZ:Addr)(p:Pt):Prop:=∀W,E3 aB aS aZ W->aJ 326 #[.func (.func 366) #[] #[.pointer (some ⟨W.heap.size+1+1,0,none⟩),.pointer (some ⟨W.heap.size+1,0,none⟩)]] (((W.alloc (ai #[.int .i64 p.x.n,.int .i64 p.x.d,.int .i64 p.y.n,.int .i64 p.y.d] 163)).alloc (ai #[.int .i64 6] 3)).alloc (ai #[aj (some ⟨W.heap.size,0,none⟩) 2 2] 402)) λe a=>e=ax aU/\aD W a
def aev (aB aS aZ:Addr)(p:Pt)(r:Nat×Nat):Prop:=∀W,E3 aB aS aZ W->aJ 326 #[.func (.func 366) #[] #[.pointer (some ⟨W.heap.size+1+1,0,none⟩),.pointer (some ⟨W.heap.size+1,0,none⟩)]] (((W.alloc (ai #[.int .i64 p.x.n,.int .i64 p.x.d,.int .i64 p.y.n,.int .i64 p.y.d] 163)).alloc (ai #[.int .i64 6] 3)).alloc (ai #[aj (some ⟨W.heap.size,0,none⟩) 2 2] 402)) λe b=>(∃a,W.heap.size<=a/\e=ax (aP 67 (aI a))/\b.cell? (aH a 0)=some (.int .i64 r.2)/\b.cell? (aH a 1)=some (er aB aS aZ r.1))/\aD W b
theorem a90 {aB aS aZ:Addr}{p:Pt}(hi:p.i64)(h:(bJ 6 p.list).1=0):a8Z aB aS aZ p:=λW hE=>(Fh aB aS aZ p hi W hE).mono λe b ⟨⟨v,c,a⟩,d⟩=>by
 rcases a with a|a
 .grind
 .omega
theorem aiF {aB aS aZ:Addr}{p:Pt}(hi:p.i64)(h:(bJ 6 p.list).1≠0):aev aB aS aZ p (bJ 6 p.list):=λW hE=>(Fh aB aS aZ p hi W hE).mono λe b ⟨⟨v,c,a⟩,d⟩=>by
 rcases a with a|⟨_,_,f,g,i,j,k⟩
 .omega
 .grind
theorem Tj (m:Mv)(p:Pt)(W:ah):∃V,(((W.alloc (ai (mA m) 165)).alloc (ai #[.int .i64 p.x.n,.int .i64 p.x.d,.int .i64 p.y.n,.int .i64 p.y.d] 233)).alloc (ai #[.int .i64 0,.int .i64 0,.int .i64 0,.int .i64 0] 233))=V/\gy V (W.heap.size+1+1) #[.int .i64 0,.int .i64 0,.int .i64 0,.int .i64 0] 233/\gy V (W.heap.size+1) #[.int .i64 p.x.n,.int .i64 p.x.d,.int .i64 p.y.n,.int .i64 p.y.d] 233/\gy V W.heap.size (mA m) 165/\aD W V/\V.heap.size=W.heap.size+3:=⟨_,rfl,by simpa using gy.new ((W.alloc (ai (mA m) 165)).alloc (ai #[.int .i64 p.x.n,.int .i64 p.x.d,.int .i64 p.y.n,.int .i64 p.y.d] 233)) #[.int .i64 0,.int .i64 0,.int .i64 0,.int .i64 0] 233,(by simpa using gy.new (W.alloc (ai (mA m) 165)) #[.int .i64 p.x.n,.int .i64 p.x.d,.int .i64 p.y.n,.int .i64 p.y.d] 233:gy _ _ _ _).alloc _,((gy.new W (mA m) 165).alloc _).alloc _,(((aQ _ W).alloc ay _).alloc aG _).alloc aX _,aG⟩
theorem a5v (aB aS aZ:Addr)(m:Mv)(p:Pt)(r:Nat×Nat)(W:ah)(hE:E3 aB aS aZ W)(h:a5s aB aS aZ m r):
  aJ 318 #[mv m,pv p] W λe w'=>(∃b,W.heap.size<=b/\e=ax (aF #[pv .zero,aP 67 (aI b)])/\w'.cell? (aH b 0)=some (.int .i64 r.2)/\w'.cell? (aH b 1)=some (er aB aS aZ r.1))/\aD W w':=by
 have hF:=Tj m p W;go_enter func318,ntmps318;go_wp2_with(go_at_call 264;obtain⟨V,d,i,s,t,f,u⟩:=hF;refine(h _ (d▸hE.below f ay)).mono ?_;rw[d];rintro e g ⟨⟨b,w,rfl,j,k⟩,c⟩;have a:=i.below c ay;have l:=a.cell 0 _ rfl;have x:=a.eY 0 _ rfl;have n:=a.cell 1 _ rfl;have y:=a.eY 1 _ rfl;have o:=a.cell 2 _ rfl;have z:=a.eY 2 _ rfl;have q:=a.cell 3 _ rfl;have A:=a.eY 3 _ rfl);refine bodyPost_ret (v:=aF #[pv .zero,aP 67 (aI b)]) (by simp[results,results318,go_sem,Pt.zero,Fr.zero,l,n,o,q]) rfl ⟨⟨b,aa,rfl,?_,?_⟩,?_⟩
 .exact(gQ (p:=⟨b,0,none⟩) (R:=W.heap.size+1+1) fJ [.int .i64 0,.int .i64 0,.int .i64 0,.int .i64 0] 0 g).trans j
 .exact(gQ (p:=⟨b,1,none⟩) (R:=W.heap.size+1+1) fJ [.int .i64 0,.int .i64 0,.int .i64 0,.int .i64 0] 0 g).trans k
 .exact cZ (R:=W.heap.size+1+1) aa [.int .i64 0,.int .i64 0,.int .i64 0,.int .i64 0] 0 (f.trans (c.mono aa))
theorem a5w (aB aS aZ:Addr)(m:Mv)(p:Pt)(r:Nat×Nat)(W:ah)(hE:E3 aB aS aZ W)(g:Fg aB aS aZ m)(n:aev aB aS aZ p r):
  aJ 318 #[mv m,pv p] W λe w'=>(∃c,W.heap.size<=c/\e=ax (aF #[pv .zero,aP 67 (aI c)])/\w'.cell? (aH c 0)=some (.int .i64 r.2)/\w'.cell? (aH c 1)=some (er aB aS aZ r.1))/\aD W w':=by
 have hF:=Tj m p W;have o:=tQ;go_enter func318,ntmps318;go_wp2_with(first|(go_at_call 326;refine h.mono ?_;rintro e j ⟨⟨c,E,rfl,q,s⟩,f⟩;have a:=(t.below b ay).below f ay;have u:=a.cell 0 _ rfl;have F:=a.eY 0 _ rfl;have w:=a.cell 1 _ rfl;have H:=a.eY 1 _ rfl;have x:=a.cell 2 _ rfl;have I:=a.eY 2 _ rfl;have y:=a.cell 3 _ rfl;have J:=a.eY 3 _ rfl)|(go_at_call 349;refine(o 6 (aj (some ⟨k.heap.size,0,none⟩) 2 2) _ _ _ rfl _).mono ?_;rintro e K ⟨rfl,rfl⟩;have h:=n k (hE.below i ay|>.below b ay);simp only[dK])|(go_at_call 264;obtain⟨V,l,t,z,L,i,M⟩:=hF;refine(g _ (l▸hE.below i ay)).mono ?_;rw[l];rintro e k ⟨rfl,b⟩;have d:=z.below b ay;have N:=b.size;have A:=d.cell 0 _ rfl;have B:=d.cell 1 _ rfl;have C:=d.cell 2 _ rfl;have D:=d.cell 3 _ rfl));refine bodyPost_ret (v:=aF #[pv .zero,aP 67 (aI c)]) (by simp[results,results318,go_sem,Pt.zero,Fr.zero,u,w,x,y]) rfl ⟨⟨c,aa,rfl,?_,?_⟩,?_⟩
 .exact(gQ (p:=⟨c,0,none⟩) (R:=W.heap.size+1+1) fJ [.int .i64 0,.int .i64 0,.int .i64 0,.int .i64 0] 0 j).trans q
 .exact(gQ (p:=⟨c,1,none⟩) (R:=W.heap.size+1+1) fJ [.int .i64 0,.int .i64 0,.int .i64 0,.int .i64 0] 0 j).trans s
 .exact cZ (R:=W.heap.size+1+1) aa [.int .i64 0,.int .i64 0,.int .i64 0,.int .i64 0] 0 ((i.trans (b.mono aa)).trans (f.mono aa))
theorem a0U (aB aS aZ:Addr)(m:Mv)(p q:Pt)(c:Nat)(r:Pt)(s:au)(hc:(c=0/\r=q/\s=aU)\/(c=2/\r=.zero/\s=aP 453 (.pointer (some aB))))(W:ah)(hE:E3 aB aS aZ W)(t:Fg aB aS aZ m)(HP:a8Z aB aS aZ p)
  (T:∀b V,Wk aB aS aZ W b 0 V->aJ 266 #[aI b,mv m,pv p] V λe w'=>e=ax (.agg #[.int .i64 q.x.n,.int .i64 q.x.d,.int .i64 q.y.n,.int .i64 q.y.d])/\Wk aB aS aZ W b c w'/\fo b V w'):
  aJ 318 #[mv m,pv p] W λe w'=>e=ax (aF #[pv r,s])/\aD W w':=by
 have hF:=Tj m p W;have HN:=tQ;go_enter func318,ntmps318;go_upto_region 9 with(first|(go_at_call 266;clear u w x y z A B C D E XU XV F H I J;refine(T _ _ ⟨hE,j.alloc j.size _,j.size,dG rfl rfl,pI rfl⟩).mono ?_;rintro e U ⟨rfl,K,l⟩;have n2:W.heap.size+1+1≠L.heap.size:=aa;have a:=((M.alloc _).upto l n2).alloc (ai #[.int .i64 q.x.n,.int .i64 q.x.d,.int .i64 q.y.n,.int .i64 q.y.d] 233);have X:=a.cell 0 _ rfl;have JS:=a.eY 0 _ rfl;have Y:=a.cell 1 _ rfl;have JU:=a.eY 1 _ rfl;have Z:=a.cell 2 _ rfl;have JV:=a.eY 2 _ rfl;have uX:=a.cell 3 _ rfl;have JW:=a.eY 3 _ rfl;have k:=K.alloc (ai #[.int .i64 q.x.n,.int .i64 q.x.d,.int .i64 q.y.n,.int .i64 q.y.d] 233);have kc:=k.cell;have nq:¬L.heap.size=W.heap.size+1+1:=aa;have a4:¬W.heap.size+1+1=L.heap.size:=aa;have s3:=l.size;simp only[dK] at s3;have nr:¬W.heap.size+1+1=U.heap.size:=aa;have a5:¬U.heap.size=W.heap.size+1+1:=aa)|(go_at_call 326;refine n.mono ?_;rintro e L ⟨rfl,g⟩;clear N O P Q n;have f:=(BM.below d ay).below g ay;have i:=h.below g ay;have M:=(BR.below d ay).below g ay;have s2:=g.size;have j:=(S.trans (d.mono aa)).trans (g.mono aa);have u:=λo=>aL o (f.cell 0 _ rfl);have w:=λo=>aL o (f.cell 1 _ rfl);have x:=λo=>aL o (f.cell 2 _ rfl);have y:=λo=>aL o (f.cell 3 _ rfl);have z:=λo=>aL o (f.cell 4 _ rfl);have A:=λo=>aL o (f.cell 5 _ rfl);have B:=λo=>aL o (f.cell 6 _ rfl);have C:=λo=>aL o (f.cell 7 _ rfl);have D:=λo=>aL o (f.cell 8 _ rfl);have E:=λo=>aL o (f.cell 9 _ rfl);have XU:=λo=>aL o (f.cell 10 _ rfl);have XV:=λo=>aL o (f.cell 11 _ rfl);have F:=λo=>aL o (i.cell 0 _ rfl);have H:=λo=>aL o (i.cell 1 _ rfl);have I:=λo=>aL o (i.cell 2 _ rfl);have J:=λo=>aL o (i.cell 3 _ rfl))|(go_at_call 349;refine(HN 6 (aj (some ⟨w1.heap.size,0,none⟩) 2 2) _ _ _ rfl _).mono ?_;rintro e wn ⟨rfl,rfl⟩;have n:=HP w1 (hE.below S ay|>.below d ay);simp only[dK])|(go_at_call 264;obtain⟨V,hV,BR,BP,BM,S,hz⟩:=hF;refine(t _ (hV▸hE.below S ay)).mono ?_;rw[hV];rintro e w1 ⟨rfl,d⟩;have h:=BP.below d ay;have s1:=d.size;have N:=h.cell 0 _ rfl;have O:=h.cell 1 _ rfl;have P:=h.cell 2 _ rfl;have Q:=h.cell 3 _ rfl))
 rcases hc with⟨rfl,rfl,rfl⟩|⟨rfl,rfl,rfl⟩
 .simp only[vG] at kc;go_wp2;refine bodyPost_ret (v:=aF #[pv r,aU]) (by simp[results,results318,go_sem,X,Y,Z,uX]) rfl ⟨rfl,?_⟩;exact cZ (R:=W.heap.size+1+1) aa [.int .i64 r.x.n,.int .i64 r.x.d,.int .i64 r.y.n,.int .i64 r.y.d] 0 k.hb
 .simp only[a0O] at kc;go_upto_region 10 with fail;go_region;go_wp2;refine bodyPost_ret (v:=aF #[pv .zero,aP 453 (.pointer (some aB))]) (by simp[results,results318,go_sem,Pt.zero,Fr.zero,X,Y,Z,uX]) rfl ⟨rfl,?_⟩;exact cZ (R:=W.heap.size+1+1) aa [.int .i64 0,.int .i64 0,.int .i64 0,.int .i64 0] 0 (below_drewN k.hb 1)
theorem jI (n:Int)(W:ah):aJ 133 #[ag n] W λe w'=>e=ax (.agg #[ag n,ag 1])/\aD W w':=by
 go_enter func133,ntmps133;go_wp2;refine bodyPost_ret (v:=.agg #[ag n,ag 1]) (by simp[results,results133,go_sem]) rfl ⟨rfl,?_⟩;exact(aQ _ W).alloc ay _
theorem tV (W:ah):aJ 78 #[] W λe w'=>e=ax (mv .one)/\aD W w':=by
 obtain⟨h,K2,i,j,k,l⟩:=And.intro jI (And.intro jI (And.intro jI (And.intro jI (And.intro jI jI))));have s:=gy.new W zA 165;have m:=(aQ W.heap.size W).alloc ay (ai zA 165);go_enter func78,ntmps78;go_wp2_with(first|(go_at_call 133;refine(h _ _).mono ?_;clear h;rintro e O ⟨rfl,a⟩;have t:=s.below a ay;have n:=m.trans (a.mono m.size))|(go_at_call 133;refine(K2 _ _).mono ?_;clear K2;rintro e P ⟨rfl,b⟩;have u:=t.below b ay;have o:=n.trans (b.mono n.size))|(go_at_call 133;refine(i _ _).mono ?_;clear i;rintro e Q ⟨rfl,c⟩;have w:=u.below c ay;have p:=o.trans (c.mono o.size))|(go_at_call 133;refine(j _ _).mono ?_;clear j;rintro e S ⟨rfl,d⟩;have x:=w.below d ay;have q:=p.trans (d.mono p.size))|(go_at_call 133;refine(k _ _).mono ?_;clear k;rintro e T ⟨rfl,f⟩;have y:=x.below f ay;have r:=q.trans (f.mono q.size))|(go_at_call 133;refine(l _ _).mono ?_;clear l;rintro e U ⟨rfl,g⟩;have z:=y.below g ay;have A:=r.trans (g.mono r.size);obtain⟨B,V,C,X,D,Y,E,Z,F,O9,H,Oa,I,Ob,J,Oc,K,Od,L,Oe,M,vH,N,vI⟩:=z.six));refine bodyPost_ret (v:=mv .one) (by simp[results,results78,go_sem,Mv.one,Fr.whole,B,C,D,E,F,H,I,J,K,L,M,N]) rfl ⟨rfl,?_⟩;exact cZ (R:=W.heap.size) ay oL 0 A
theorem Oh (m n:Mv):∃a d b e c f,dW 0 n ⟨m.a,m.b⟩=(a,d)/\dW d n ⟨m.c,m.d⟩=(b,e)/\fe e n ⟨m.e,m.f⟩=(c,f)/\thenS m n=(⟨a.x,a.y,b.x,b.y,c.x,c.y⟩,f):=by
 unfold thenS;grind
theorem Fj (aB aS aZ:Addr){m n:Mv}(a:m.ok)(d:n.ok)(W:ah):∃f j g k i l,thenS m n=(⟨f.x,f.y,g.x,g.y,i.x,i.y⟩,l)/\
  (∀b V,Wk aB aS aZ W b 0 V->aJ 265 #[aI b,mv n,.agg #[ag m.a.n,ag m.a.d,ag m.b.n,ag m.b.d]] V λe w'=>e=ax (pv f)/\Wk aB aS aZ W b j w'/\fo b V w')/\
  (∀b V,Wk aB aS aZ W b j V->aJ 265 #[aI b,mv n,.agg #[ag m.c.n,ag m.c.d,ag m.d.n,ag m.d.d]] V λe w'=>e=ax (pv g)/\Wk aB aS aZ W b k w'/\fo b V w')/\
  (∀b V,Wk aB aS aZ W b k V->aJ 266 #[aI b,mv n,.agg #[ag m.e.n,ag m.e.d,ag m.f.n,ag m.f.d]] V λe w'=>e=ax (pv i)/\Wk aB aS aZ W b l w'/\fo b V w'):=by
 obtain⟨f,j,g,k,i,l,q,r,w,x⟩:=Oh m n;obtain⟨o,_⟩:=lY (c:=0) (m:=n) (p:=⟨m.a,m.b⟩) (.inl rfl) d ⟨a.1,a.2.1⟩;rw[q] at o;obtain⟨s,_⟩:=lY (m:=n) (p:=⟨m.c,m.d⟩) o d ⟨a.2.2.1,a.2.2.2.1⟩;rw[r] at s;have t:=λb V h=>yF (aB:=aB) (aS:=aS) (aZ:=aZ) (w0:=W) (b:=b) (c:=0) (m:=n) (p:=⟨m.a,m.b⟩) (.inl rfl) d ⟨a.1,a.2.1⟩ V h;have u:=λb V h=>yF (aB:=aB) (aS:=aS) (aZ:=aZ) (w0:=W) (b:=b) (m:=n) (p:=⟨m.c,m.d⟩) o d ⟨a.2.2.1,a.2.2.2.1⟩ V h;have v:=λb V h=>Bi (aB:=aB) (aS:=aS) (aZ:=aZ) (w0:=W) (b:=b) (m:=n) (p:=⟨m.e,m.f⟩) s d ⟨a.2.2.2.2.1,a.2.2.2.2.2⟩ V h;rw[q] at t;rw[r] at u;rw[w] at v;exact⟨f,j,g,k,i,l,x,t,u,v⟩
theorem VK {aB aS aZ:Addr}{m n x:Mv}(k:m.i64)(l:n.i64)(h:uO m n=(x,.no))(W:ah)(hE:E3 aB aS aZ W):
  aJ 195 #[mv m,mv n] W λe w'=>e=ax (aF #[mv x,aU])/\aD W w':=by
 unfold uO at h;by_cases a:(bJ 0 m.list).1=0
 .rw[if_neg (by simp[a])] at h;by_cases c:(bJ 0 n.list).1=0
  .rw[if_neg (by simp[c])] at h;by_cases d:(thenS m n).2=0
   .rw[if_pos d] at h;have j:(thenS m n).1=x:=by grind
    obtain⟨f,o,g,p,i,q,r,s,t,u⟩:=Fj aB aS aZ (uN a) (uN c) W;rw[r] at j d;obtain rfl:q=0:=d;subst j;exact Og aB aS aZ m n f g i o p _ _ _ W hE (zI k a) (zI l c) s t u λb V h=>XP ⟨f.x,f.y,g.x,g.y,i.x,i.y⟩ V h
   .grind
  .grind
 .grind
theorem VM {aB aS aZ:Addr}{m n:Mv}(k:m.i64)(o:n.i64)(h:∀x,uO m n≠(x,.no))(W:ah)(hE:E3 aB aS aZ W):
  aJ 195 #[mv m,mv n] W λe w'=>(∃v,e=ax (aF #[mv .zero,v])/\(uO m n).2.is aB aS aZ W.heap.size v w')/\aD W w':=by
 unfold uO at h⊢;by_cases a:(bJ 0 m.list).1=0
 .rw[if_neg (by simp[a])] at h⊢;by_cases c:(bJ 0 n.list).1=0
  .rw[if_neg (by simp[c])] at h⊢;by_cases p:(thenS m n).2=0
   .grind
   .rw[if_neg p];have q:(thenS m n).2=2:=(Be (uN a) (uN c)).1.resolve_left p;obtain⟨d,r,f,s,g,t,u,w,y,z⟩:=Fj aB aS aZ (uN a) (uN c) W;rw[u] at q;obtain rfl:t=2:=q;refine(Og aB aS aZ m n d f g r s _ _ _ W hE (zI k a) (zI o c) w y z λb V h=>Ti ⟨d.x,d.y,f.x,f.y,g.x,g.y⟩ V h).mono ?_;rintro e w' ⟨i,j⟩;exact⟨⟨_,i,rfl,rfl⟩,j⟩
  .rw[if_pos c];refine(XR aB aS aZ m n _ W hE (zI k a) (aaa o c)).mono ?_;rintro e w' ⟨⟨l,d,i,f,g⟩,j⟩;exact⟨⟨_,i,LK c,l,d,rfl,f,g⟩,j⟩
 .rw[if_pos a];refine(XQ aB aS aZ m n _ W hE (aaa k a)).mono ?_;rintro e w' ⟨⟨l,d,i,f,g⟩,j⟩;exact⟨⟨_,i,LK a,l,d,rfl,f,g⟩,j⟩
theorem aew {aB aS aZ:Addr}{m:Mv}{p q:Pt}(g:m.i64)(hp:p.i64)(h:atR m p=(q,.no))(W:ah)(hE:E3 aB aS aZ W):
  aJ 318 #[mv m,pv p] W λe w'=>e=ax (aF #[pv q,aU])/\aD W w':=by
 unfold atR at h;by_cases a:(bJ 0 m.list).1=0
 .rw[if_neg (by simp[a])] at h;by_cases d:(bJ 6 p.list).1=0
  .rw[if_neg (by simp[d])] at h;by_cases f:(fe 0 m p).2=0
   .rw[if_pos f] at h;obtain rfl:(fe 0 m p).1=q:=by simpa using congrArg Prod.fst h
    have T:=λb V h=>Bi (aB:=aB) (aS:=aS) (aZ:=aZ) (w0:=W) (b:=b) (c:=0) (.inl rfl) (uN a) (VJ d) V h;rw[f] at T;exact a0U aB aS aZ m p _ _ _ _ (.inl ⟨rfl,rfl,rfl⟩) W hE (zI g a) (a90 hp d) T
   .grind
  .grind
 .grind
theorem aex {aB aS aZ:Addr}{m:Mv}{p:Pt}(i:m.i64)(hp:p.i64)(h:∀q,atR m p≠(q,.no))(W:ah)(hE:E3 aB aS aZ W):
  aJ 318 #[mv m,pv p] W λe w'=>(∃v,e=ax (aF #[pv .zero,v])/\(atR m p).2.is aB aS aZ W.heap.size v w')/\aD W w':=by
 unfold atR at h⊢;by_cases a:(bJ 0 m.list).1=0
 .rw[if_neg (by simp[a])] at h⊢;by_cases d:(bJ 6 p.list).1=0
  .rw[if_neg (by simp[d])] at h⊢;by_cases o:(fe 0 m p).2=0
   .grind
   .rw[if_neg o];have r:(fe 0 m p).2=2:=(yE (c:=0) (.inl rfl) (uN a) (VJ d)).1.resolve_left o;have T:=λb V h=>Bi (aB:=aB) (aS:=aS) (aZ:=aZ) (w0:=W) (b:=b) (c:=0) (.inl rfl) (uN a) (VJ d) V h;rw[r] at T;refine(a0U aB aS aZ m p _ _ _ _ (.inr ⟨rfl,rfl,rfl⟩) W hE (zI i a) (a90 hp d) T).mono ?_;rintro e w' ⟨f,g⟩;exact⟨⟨_,f,rfl,rfl⟩,g⟩
  .rw[if_pos d];refine(a5w aB aS aZ m p _ W hE (zI i a) (aiF hp d)).mono ?_;rintro e w' ⟨⟨j,k,f,l,n⟩,g⟩;exact⟨⟨_,f,LK d,j,k,rfl,l,n⟩,g⟩
 .rw[if_pos a];refine(a5v aB aS aZ m p _ W hE (aaa i a)).mono ?_;rintro e w' ⟨⟨j,k,f,l,n⟩,g⟩;exact⟨⟨_,f,LK a,j,k,rfl,l,n⟩,g⟩
theorem jl (P:Program)(w:ah)(a:Addr)(m:Mode)(f:Fn)(x y:Array au):(store a (.func f x y) m).run P w=stored P w a (.func f x y) m:=run_store P w a _ m rfl
attribute [local go_sem] jl
abbrev Oi:aM:=⟨#[109,111,118,101]⟩
abbrev Fp:aM:=⟨#[115,99,97,108,101]⟩
abbrev Fq:aM:=⟨#[116,117,114,110]⟩
abbrev Oj:aM:=⟨#[115,107,101,119]⟩
theorem vJ (k:Nat)(W:ah):aJ 354 #[.func (.func k) #[] #[]] W λe w'=>e=ax (.func (.func 367) #[] #[aI W.heap.size])/\w'=W.alloc (ai #[.func (.func k) #[] #[]] 443):=by
 go_enter func354,ntmps354;go_wp2;go_ret;exact⟨rfl,rfl⟩
theorem Ol (W:ah):aJ 324 #[ak Oi] W λe w'=>(∃B,W.heap.size<=B/\e=ax (aF #[.agg #[ag 2,.func (.func 367) #[] #[aI B]],.bool true])/\w'.cell? (aH B 0)=some (.func (.func 355) #[] #[]))/\aD W w':=by
 have a:=vJ;go_enter func324,ntmps324;go_wp2_with(go_at_call 354;refine(a _ _).mono ?_;rintro e b ⟨rfl,rfl⟩);refine bodyPost_ret (v:=aF #[.agg #[ag 2,.func (.func 367) #[] #[.pointer (some ⟨W.heap.size+1,0,none⟩)]],.bool true]) (by simp[results,results324,go_sem]) rfl ⟨⟨W.heap.size+1,aa,rfl,dG aG rfl⟩,?_⟩;exact((aQ _ W).alloc ay _).alloc aG _
theorem LM (W:ah):aJ 324 #[ak Fp] W λe w'=>(∃B,W.heap.size<=B/\e=ax (aF #[.agg #[ag 2,.func (.func 367) #[] #[aI B]],.bool true])/\w'.cell? (aH B 0)=some (.func (.func 356) #[] #[]))/\aD W w':=by
 have a:=vJ;go_enter func324,ntmps324;go_wp2_with(go_at_call 354;refine(a _ _).mono ?_;rintro e b ⟨rfl,rfl⟩);refine bodyPost_ret (v:=aF #[.agg #[ag 2,.func (.func 367) #[] #[.pointer (some ⟨W.heap.size+1,0,none⟩)]],.bool true]) (by simp[results,results324,go_sem]) rfl ⟨⟨W.heap.size+1,aa,rfl,dG aG rfl⟩,?_⟩;exact((aQ _ W).alloc ay _).alloc aG _
theorem Om (W:ah):aJ 324 #[ak Oj] W λe w'=>(∃B,W.heap.size<=B/\e=ax (aF #[.agg #[ag 1,.func (.func 367) #[] #[aI B]],.bool true])/\w'.cell? (aH B 0)=some (.func (.func 358) #[] #[]))/\aD W w':=by
 have a:=vJ;go_enter func324,ntmps324;go_wp2_with(go_at_call 354;refine(a _ _).mono ?_;rintro e b ⟨rfl,rfl⟩);refine bodyPost_ret (v:=aF #[.agg #[ag 1,.func (.func 367) #[] #[.pointer (some ⟨W.heap.size+1,0,none⟩)]],.bool true]) (by simp[results,results324,go_sem]) rfl ⟨⟨W.heap.size+1,aa,rfl,dG aG rfl⟩,?_⟩;exact((aQ _ W).alloc ay _).alloc aG _
theorem vL (W:ah):aJ 324 #[ak Fq] W λe w'=>e=ax (aF #[.agg #[ag 1,.func (.func 357) #[] #[]],.bool true])/\aD W w':=by
 go_enter func324,ntmps324;go_wp2;refine bodyPost_ret (v:=aF #[.agg #[ag 1,.func (.func 357) #[] #[]],.bool true]) (by simp[results,results324,go_sem]) rfl ⟨rfl,?_⟩;exact(aQ _ W).alloc ay _

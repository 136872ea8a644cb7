import Derived.Test.YtbkjmamcnflncaaGreatDoorQt3
namespace Go.Proofs.YtbkjmamcnflncaaGreatDoor
open Go.Proofs.Tryz
set_option maxHeartbeats 8000000
open Go.RowKit
variable{b R:Nat}{m:Mv}{w:ai}{aB aS aZ:Addr}{cs:Array ax}{t:TypeId}{a0 a1 a2 a3 j s u z C D E H:ax}{p:Pt}
theorem a9J {Q:Nat}{W A B:ai}{q:Pt}(a:fJ b A B)(c:W.heap.size≠b)(d:Q≠b)(h:(λw'=>w'.cell? ⟨W.heap.size,8,none⟩=some (ag m.e.n)/\w'.cell? ⟨W.heap.size,9,none⟩=some (ag m.e.d)/\w'.cell? ⟨W.heap.size,10,none⟩=some (ag m.f.n)/\w'.cell? ⟨W.heap.size,11,none⟩=some (ag m.f.d)/\w'.cell? (aJ Q 0)=some (ag q.x.n)/\w'.cell? (aJ Q 1)=some (ag q.x.d)/\w'.cell? (aJ Q 2)=some (ag q.y.n)/\w'.cell? (aJ Q 3)=some (ag q.y.d)) A):(λw'=>w'.cell? ⟨W.heap.size,8,none⟩=some (ag m.e.n)/\w'.cell? ⟨W.heap.size,9,none⟩=some (ag m.e.d)/\w'.cell? ⟨W.heap.size,10,none⟩=some (ag m.f.n)/\w'.cell? ⟨W.heap.size,11,none⟩=some (ag m.f.d)/\w'.cell? (aJ Q 0)=some (ag q.x.n)/\w'.cell? (aJ Q 1)=some (ag q.x.d)/\w'.cell? (aJ Q 2)=some (ag q.y.n)/\w'.cell? (aJ Q 3)=some (ag q.y.d)) B:=by
 obtain⟨e,f,g,i,j,k,l,n⟩:=h;exact⟨a.cell e c,a.cell f c,a.cell g c,a.cell i c,a.cell j d,a.cell k d,a.cell l d,a.cell n d⟩
theorem aaT {Q:Nat}{W:ai}{q:Pt}{c d e f:ax}(h:(λw'=>w'.cell? ⟨W.heap.size,8,none⟩=some (ag m.e.n)/\w'.cell? ⟨W.heap.size,9,none⟩=some (ag m.e.d)/\w'.cell? ⟨W.heap.size,10,none⟩=some (ag m.f.n)/\w'.cell? ⟨W.heap.size,11,none⟩=some (ag m.f.d)/\w'.cell? (aJ Q 0)=some (ag q.x.n)/\w'.cell? (aJ Q 1)=some (ag q.x.d)/\w'.cell? (aJ Q 2)=some (ag q.y.n)/\w'.cell? (aJ Q 3)=some (ag q.y.d)) w)(a:R≠W.heap.size)(b:R≠Q):(λw'=>w'.cell? ⟨W.heap.size,8,none⟩=some (ag m.e.n)/\w'.cell? ⟨W.heap.size,9,none⟩=some (ag m.e.d)/\w'.cell? ⟨W.heap.size,10,none⟩=some (ag m.f.n)/\w'.cell? ⟨W.heap.size,11,none⟩=some (ag m.f.d)/\w'.cell? (aJ Q 0)=some (ag q.x.n)/\w'.cell? (aJ Q 1)=some (ag q.x.d)/\w'.cell? (aJ Q 2)=some (ag q.y.n)/\w'.cell? (aJ Q 3)=some (ag q.y.d)) ((((w.setCell ⟨R,0,none⟩ c).setCell ⟨R,1,none⟩ d).setCell ⟨R,2,none⟩ e).setCell ⟨R,3,none⟩ f):=by
 obtain⟨g,i,j,k,l,n,o,p⟩:=h;exact⟨(dh _ _ _ _ a).trans ((dh _ _ _ _ a).trans ((dh _ _ _ _ a).trans ((dh _ _ _ _ a).trans g))),(dh _ _ _ _ a).trans ((dh _ _ _ _ a).trans ((dh _ _ _ _ a).trans ((dh _ _ _ _ a).trans i))),(dh _ _ _ _ a).trans ((dh _ _ _ _ a).trans ((dh _ _ _ _ a).trans ((dh _ _ _ _ a).trans j))),(dh _ _ _ _ a).trans ((dh _ _ _ _ a).trans ((dh _ _ _ _ a).trans ((dh _ _ _ _ a).trans k))),(dh _ _ _ _ b).trans ((dh _ _ _ _ b).trans ((dh _ _ _ _ b).trans ((dh _ _ _ _ b).trans l))),(dh _ _ _ _ b).trans ((dh _ _ _ _ b).trans ((dh _ _ _ _ b).trans ((dh _ _ _ _ b).trans n))),(dh _ _ _ _ b).trans ((dh _ _ _ _ b).trans ((dh _ _ _ _ b).trans ((dh _ _ _ _ b).trans o))),(dh _ _ _ _ b).trans ((dh _ _ _ _ b).trans ((dh _ _ _ _ b).trans ((dh _ _ _ _ b).trans p)))⟩
theorem Yw (aB aS aZ:Addr)(w0:ai)(b:Nat)(m:Mv)(p q:Pt)(k l:Fr)(c A B C:Nat)(W:ai)(h:Wk aB aS aZ w0 b c W)
  (H:∀W,Wk aB aS aZ w0 b c W->aL 265 #[aK b,mv m,pv p] W λe w'=>e=ay (.agg #[ag q.x.n,ag q.x.d,ag q.y.n,ag q.y.d])/\Wk aB aS aZ w0 b A w'/\fJ b W w')
  (I:Yv aB aS aZ w0 b 320 A q.x m.e k B) (J:Yv aB aS aZ w0 b 320 B q.y m.f l C):
  aL 266 #[aK b,mv m,pv p] W λe w'=>e=ay (.agg #[ag k.n,ag k.d,ag l.n,ag l.d])/\Wk aB aS aZ w0 b C w'/\fJ b W w':=by
 have a:=aX h.cell;simp only at a;have n:W.heap.size≠b:=aa;have K:=h.hb.size;have hF:∃V,(((W.alloc (ak (mA m) 165)).alloc (ak #[ag p.x.n,ag p.x.d,ag p.y.n,ag p.y.d] 233)).alloc (ak #[ag 0,ag 0,ag 0,ag 0] 233))=V/\Head W m p V/\Wk aB aS aZ w0 b c V/\fJ b W V:=⟨_,rfl,Head.new W m p,((h.alloc _).alloc _).alloc _,(((fJ.refl b W).alloc _).alloc _).alloc _⟩;go_enter func266,ntmps266;go_wp2_with(go_at_call 265;obtain⟨V,D,E,L,M⟩:=hF;refine(H _ (D▸L)).mono ?_;rw[D];rintro e d ⟨rfl,F,t⟩);have o:=(E.upto t a).upto ((fJ.refl b d).alloc (ak #[ag q.x.n,ag q.x.d,ag q.y.n,ag q.y.d] 233)) a|>.upto (fJ.drew b _ 1) a
 have u:=(F.alloc (ak #[ag q.x.n,ag q.x.d,ag q.y.n,ag q.y.d] 233)).drew 1;have r:=F.ne;have N:=((M.trans t).alloc (ak #[ag q.x.n,ag q.x.d,ag q.y.n,ag q.y.d] 233)).trans (fJ.drew b _ 1);have O:=(E.upto t a).sz;have hS:(λw'=>w'.cell? ⟨W.heap.size,8,none⟩=some (ag m.e.n)/\w'.cell? ⟨W.heap.size,9,none⟩=some (ag m.e.d)/\w'.cell? ⟨W.heap.size,10,none⟩=some (ag m.f.n)/\w'.cell? ⟨W.heap.size,11,none⟩=some (ag m.f.d)/\w'.cell? ⟨d.heap.size,0,none⟩=some (ag q.x.n)/\w'.cell? ⟨d.heap.size,1,none⟩=some (ag q.x.d)/\w'.cell? ⟨d.heap.size,2,none⟩=some (ag q.y.n)/\w'.cell? ⟨d.heap.size,3,none⟩=some (ag q.y.d)) ((d.alloc (ak #[ag q.x.n,ag q.x.d,ag q.y.n,ag q.y.d] 233)).drewN 1):=⟨o.c8,o.c9,o.c10,o.c11,dN rfl rfl,dN rfl rfl,dN rfl rfl,dN rfl rfl⟩;have w:W.heap.size+1+1≠W.heap.size:=aa;have x:W.heap.size+1+1≠d.heap.size:=aa
 go_region_held3 (λw'=>w'.cell? ⟨W.heap.size,8,none⟩=some (ag m.e.n)/\w'.cell? ⟨W.heap.size,9,none⟩=some (ag m.e.d)/\w'.cell? ⟨W.heap.size,10,none⟩=some (ag m.f.n)/\w'.cell? ⟨W.heap.size,11,none⟩=some (ag m.f.d)/\w'.cell? ⟨d.heap.size,0,none⟩=some (ag q.x.n)/\w'.cell? ⟨d.heap.size,1,none⟩=some (ag q.x.d)/\w'.cell? ⟨d.heap.size,2,none⟩=some (ag q.y.n)/\w'.cell? ⟨d.heap.size,3,none⟩=some (ag q.y.d)) (first|assumption|exact aaT gm w x|go_keep) (first|(go_at_call_of 328 m.f.n;refine(J _ y).mono ?_;rintro e w2 ⟨rfl,z,i⟩;have P:=a9J i n r gm;have Q:=R.trans i;have g:=S.upto i a;obtain⟨T,U,X,Y⟩:=And.intro g.r0 (And.intro g.r1 (And.intro g.r2 g.r3));obtain⟨f0,f1,f2,f3⟩:=And.intro g.f0 (And.intro g.f1 (And.intro g.f2 g.f3)))|(go_at_call_of 328 m.e.n;refine(I _ u).mono ?_;rintro e w1 ⟨rfl,y,j⟩;have Z:=a9J j n r gm;have R:=N.trans j;have S:=o.upto j a;skip))
 go_wp2;refine bg (v:=.agg #[ag k.n,ag k.d,ag l.n,ag l.d]) (by simp[results,results266,go_sem,T,U,X,Y]) rfl ⟨rfl,?_,?_⟩
 .have f:w0.heap.size<=W.heap.size+1+1:=aa;have s:W.heap.size+1+1≠b:=aa;exact(((z.store f s _ _).store f s _ _).store f s _ _).store f s _ _
 .have f:W.heap.size<=W.heap.size+1+1:=aa;exact(((Q.store f _ _).store f _ _).store f _ _).store f _ _
theorem mG {x:Fr}(h:x.ok):x.i64:=jJ h
theorem OT:Fr.zero.i64:=⟨⟨aC,aC⟩,⟨aC,aC⟩⟩
theorem Good.i64 {a:Op4}{F:Rat->Rat->Rat}(g:Good a F){c:Nat}{x y:Fr}(d:c=0->x.ok)(e:c=0->y.ok):(yJ a c x y).1.i64:=by
 by_cases b:c=0
 .subst b;rcases g.two x y (d rfl) (e rfl) with h|h
  .have:=g.val x y (a x.n x.d y.n y.d).n (a x.n x.d y.n y.d).d (by rw[<- h]);simp only[yJ,aR];exact mG this.2.2.1
  .simp only[yJ,aR,h];exact OT
 .simp only[yJ,aG b];exact OT
theorem Good.code {a:Op4}{F:Rat->Rat->Rat}(g:Good a F){x y:Fr}(b:x.ok)(c:y.ok):(a x.n x.d y.n y.d).c=0\/(a x.n x.d y.n y.d).c=2:=by
 rcases g.two x y b c with h|h
 .exact .inl h
 .grind
theorem KN {aB aS aZ:Addr}{w0:ai}{b c:Nat}{a x d y:Fr}(hc:c=0\/c=2)(f:a.ok)(g:x.ok)(h:d.ok)(i:y.ok):
  ∃j k l m,Yv aB aS aZ w0 b 329 c a x j k/\Yv aB aS aZ w0 b 329 k d y l m/\Yv aB aS aZ w0 b 320 m j l (Ca c a x d y).1 (Ca c a x d y).2:=by
 obtain⟨n,p⟩:=jP.step hc (λ_=>f) (λ_=>g);obtain⟨q,o⟩:=jP.step n (λ_=>h) (λ_=>i);refine⟨_,_,_,_,WC hc (mG f) (mG g) (λ_=>jP.code f g),WC n (mG h) (mG i) (λ_=>jP.code h i),?_⟩;exact MF q (jP.i64 (λ_=>f) (λ_=>g)) (jP.i64 (λ_=>h) (λ_=>i)) (λe=>nD.code (p (o e).1).2.1 (o e).2.1)
theorem zm {aB aS aZ:Addr}{w0:ai}{b c:Nat}{m:Mv}{p:Pt}(hc:c=0\/c=2)(a:m.ok)(hp:p.ok)(W:ai)(h:Wk aB aS aZ w0 b c W):
  aL 265 #[aK b,mv m,pv p] W λe w'=>e=ay (pv (eO c m p).1)/\Wk aB aS aZ w0 b (eO c m p).2 w'/\fJ b W w':=by
 obtain⟨d,f,g,i,j,k,l⟩:=KN (aB:=aB) (aS:=aS) (aZ:=aZ) (w0:=w0) (b:=b) hc a.1 hp.1 a.2.2.1 hp.2;obtain⟨n,o,q,r,s,t,u⟩:=KN (aB:=aB) (aS:=aS) (aZ:=aZ) (w0:=w0) (b:=b) (Ah hc a.1 hp.1 a.2.2.1 hp.2).1 a.2.1 hp.1 a.2.2.2.1 hp.2;exact U9 aB aS aZ w0 b m p d g _ n q _ c f i _ o r _ W h j k l s t u
theorem Cg {aB aS aZ:Addr}{w0:ai}{b c:Nat}{m:Mv}{p:Pt}(hc:c=0\/c=2)(a:m.ok)(hp:p.ok)(W:ai)(h:Wk aB aS aZ w0 b c W):
  aL 266 #[aK b,mv m,pv p] W λe w'=>e=ay (pv (fH c m p).1)/\Wk aB aS aZ w0 b (fH c m p).2 w'/\fJ b W w':=by
 obtain⟨f,d⟩:=mJ hc a hp;have i:=λW h=>zm (aB:=aB) (aS:=aS) (aZ:=aZ) (w0:=w0) (b:=b) hc a hp W h;have g:(eO c m p).1.x.i64/\(eO c m p).1.y.i64:=by
  obtain⟨l,n⟩:=jP.step hc (λ_=>a.1) (λ_=>hp.1);obtain⟨v,j⟩:=jP.step l (λ_=>a.2.2.1) (λ_=>hp.2);obtain⟨o,_⟩:=Ah hc a.1 hp.1 a.2.2.1 hp.2;obtain⟨q,r⟩:=jP.step o (λ_=>a.2.1) (λ_=>hp.1);obtain⟨_,k⟩:=jP.step q (λ_=>a.2.2.2.1) (λ_=>hp.2);exact⟨nD.i64 (λe=>(n (j e).1).2.1) (λe=>(j e).2.1),nD.i64 (λe=>(r (k e).1).2.1) (λe=>(k e).2.1)⟩
 unfold fH;generalize eO c m p=t at f d i g⊢;obtain⟨s,u⟩:=nD.step f (x:=t.1.x) (y:=m.e) (λe=>(d e).2.1.1) (λ_=>a.2.2.2.2.1);exact Yw aB aS aZ w0 b m p t.1 _ _ c t.2 _ _ W h i (MF f g.1 (mG a.2.2.2.2.1) (λe=>nD.code (d e).2.1.1 a.2.2.2.2.1)) (MF s g.2 (mG a.2.2.2.2.2) (λe=>nD.code (d (u e).1).2.1.2 a.2.2.2.2.2))
theorem Yx {w0:ai}(m:Mv)(W:ai)(h:Wk aB aS aZ w0 b 0 W):
  aL 267 #[aK b,mv m] W λe w'=>e=ay (aH #[mv m,aY])/\aD W w':=by
 have a:=(h.alloc (ak (mA m) 165)).alloc (ak zA 165);have c:=a.cell;rw[wF] at c;clear a;go_enter func267,ntmps267;go_wp2;refine bg (v:=aH #[mv m,aY]) (by simp[results,results267,go_sem]) rfl ⟨rfl,?_⟩;exact((aW _ W).alloc az _).alloc aI _
theorem Ua {w0:ai}(m:Mv)(W:ai)(h:Wk aB aS aZ w0 b 2 W):
  aL 267 #[aK b,mv m] W λe w'=>e=ay (aH #[mv .zero,er aB aS aZ 2])/\aD W w':=by
 have c:=(h.alloc (ak (mA m) 165)).alloc (ak zA 165);have d:=c.cell;rw[a1x] at d;have a:=aX h.cell;simp only at a;clear c;go_enter func267,ntmps267;go_wp2;go_region;go_wp2;refine bg (v:=aH #[mv .zero,aU 453 (.pointer (some aB))]) (by simp[results,results267,go_sem,Mv.zero,Fr.zero]) rfl ⟨rfl,?_⟩;exact below_drewN (((aW _ W).alloc az _).alloc aI _) 1
structure gM (w:ai)(R:Nat)(cs:Array ax)(t:TypeId):Prop where
 h:w.heap[R]? =some (ak cs t)
theorem gM.cell (h:gM w R cs t)(i:Nat)(v:ax)(a:cs[i]? =some v):w.cell? (aJ R i)=some v:=by simp[World.cell?,h.h,a]
theorem gM.fG (h:gM w R cs t)(i:Nat)(v:ax)(a:cs[i]? =some v):w.frozen? ⟨R,i,none⟩=false:=by
 have:=h.cell i v a;simp[World.frozen?,h.h]
theorem gM.six (h:gM w R #[a0,a1,a2,a3,j,s,u,z,C,D,E,H] t):w.cell? (aJ R 0)=some a0/\w.frozen? ⟨R,0,none⟩=false/\w.cell? (aJ R 1)=some a1/\w.frozen? ⟨R,1,none⟩=false/\w.cell? (aJ R 2)=some a2/\w.frozen? ⟨R,2,none⟩=false/\w.cell? (aJ R 3)=some a3/\w.frozen? ⟨R,3,none⟩=false/\w.cell? (aJ R 4)=some j/\w.frozen? ⟨R,4,none⟩=false/\w.cell? (aJ R 5)=some s/\w.frozen? ⟨R,5,none⟩=false/\w.cell? (aJ R 6)=some u/\w.frozen? ⟨R,6,none⟩=false/\w.cell? (aJ R 7)=some z/\w.frozen? ⟨R,7,none⟩=false/\w.cell? (aJ R 8)=some C/\w.frozen? ⟨R,8,none⟩=false/\w.cell? (aJ R 9)=some D/\w.frozen? ⟨R,9,none⟩=false/\w.cell? (aJ R 10)=some E/\w.frozen? ⟨R,10,none⟩=false/\w.cell? (aJ R 11)=some H/\w.frozen? ⟨R,11,none⟩=false:=⟨h.cell 0 _ rfl,h.fG 0 _ rfl,h.cell 1 _ rfl,h.fG 1 _ rfl,h.cell 2 _ rfl,h.fG 2 _ rfl,h.cell 3 _ rfl,h.fG 3 _ rfl,h.cell 4 _ rfl,h.fG 4 _ rfl,h.cell 5 _ rfl,h.fG 5 _ rfl,h.cell 6 _ rfl,h.fG 6 _ rfl,h.cell 7 _ rfl,h.fG 7 _ rfl,h.cell 8 _ rfl,h.fG 8 _ rfl,h.cell 9 _ rfl,h.fG 9 _ rfl,h.cell 10 _ rfl,h.fG 10 _ rfl,h.cell 11 _ rfl,h.fG 11 _ rfl⟩
theorem gM.a1B (h:gM w R #[a0,a1,a2,a3,j,s,u,z,C,D,E,H] t):(∀o,(w.alloc o).cell? (aJ R 0)=some a0)/\(∀o,(w.alloc o).frozen? ⟨R,0,none⟩=false)/\(∀o,(w.alloc o).cell? (aJ R 1)=some a1)/\(∀o,(w.alloc o).frozen? ⟨R,1,none⟩=false)/\(∀o,(w.alloc o).cell? (aJ R 2)=some a2)/\(∀o,(w.alloc o).frozen? ⟨R,2,none⟩=false)/\(∀o,(w.alloc o).cell? (aJ R 3)=some a3)/\(∀o,(w.alloc o).frozen? ⟨R,3,none⟩=false)/\(∀o,(w.alloc o).cell? (aJ R 4)=some j)/\(∀o,(w.alloc o).frozen? ⟨R,4,none⟩=false)/\(∀o,(w.alloc o).cell? (aJ R 5)=some s)/\(∀o,(w.alloc o).frozen? ⟨R,5,none⟩=false)/\(∀o,(w.alloc o).cell? (aJ R 6)=some u)/\(∀o,(w.alloc o).frozen? ⟨R,6,none⟩=false)/\(∀o,(w.alloc o).cell? (aJ R 7)=some z)/\(∀o,(w.alloc o).frozen? ⟨R,7,none⟩=false)/\(∀o,(w.alloc o).cell? (aJ R 8)=some C)/\(∀o,(w.alloc o).frozen? ⟨R,8,none⟩=false)/\(∀o,(w.alloc o).cell? (aJ R 9)=some D)/\(∀o,(w.alloc o).frozen? ⟨R,9,none⟩=false)/\(∀o,(w.alloc o).cell? (aJ R 10)=some E)/\(∀o,(w.alloc o).frozen? ⟨R,10,none⟩=false)/\(∀o,(w.alloc o).cell? (aJ R 11)=some H)/\(∀o,(w.alloc o).frozen? ⟨R,11,none⟩=false):=⟨λo=>aN o (h.cell 0 _ rfl),λo=>gV o (h.cell 0 _ rfl) (h.fG 0 _ rfl),λo=>aN o (h.cell 1 _ rfl),λo=>gV o (h.cell 1 _ rfl) (h.fG 1 _ rfl),λo=>aN o (h.cell 2 _ rfl),λo=>gV o (h.cell 2 _ rfl) (h.fG 2 _ rfl),λo=>aN o (h.cell 3 _ rfl),λo=>gV o (h.cell 3 _ rfl) (h.fG 3 _ rfl),λo=>aN o (h.cell 4 _ rfl),λo=>gV o (h.cell 4 _ rfl) (h.fG 4 _ rfl),λo=>aN o (h.cell 5 _ rfl),λo=>gV o (h.cell 5 _ rfl) (h.fG 5 _ rfl),λo=>aN o (h.cell 6 _ rfl),λo=>gV o (h.cell 6 _ rfl) (h.fG 6 _ rfl),λo=>aN o (h.cell 7 _ rfl),λo=>gV o (h.cell 7 _ rfl) (h.fG 7 _ rfl),λo=>aN o (h.cell 8 _ rfl),λo=>gV o (h.cell 8 _ rfl) (h.fG 8 _ rfl),λo=>aN o (h.cell 9 _ rfl),λo=>gV o (h.cell 9 _ rfl) (h.fG 9 _ rfl),λo=>aN o (h.cell 10 _ rfl),λo=>gV o (h.cell 10 _ rfl) (h.fG 10 _ rfl),λo=>aN o (h.cell 11 _ rfl),λo=>gV o (h.cell 11 _ rfl) (h.fG 11 _ rfl)⟩
theorem gM.twelve (h:gM w R #[a0,a1,a2,a3,j,s,u,z,C,D,E,H] t):w.cell? (aJ R 0)=some a0/\w.cell? (aJ R 1)=some a1/\w.cell? (aJ R 2)=some a2/\w.cell? (aJ R 3)=some a3/\w.cell? (aJ R 4)=some j/\w.cell? (aJ R 5)=some s/\w.cell? (aJ R 6)=some u/\w.cell? (aJ R 7)=some z/\w.cell? (aJ R 8)=some C/\w.cell? (aJ R 9)=some D/\w.cell? (aJ R 10)=some E/\w.cell? (aJ R 11)=some H:=⟨h.cell 0 _ rfl,h.cell 1 _ rfl,h.cell 2 _ rfl,h.cell 3 _ rfl,h.cell 4 _ rfl,h.cell 5 _ rfl,h.cell 6 _ rfl,h.cell 7 _ rfl,h.cell 8 _ rfl,h.cell 9 _ rfl,h.cell 10 _ rfl,h.cell 11 _ rfl⟩
theorem gM.new (w:ai)(cs:Array ax)(t:TypeId):gM (w.alloc (ak cs t)) w.heap.size cs t:=⟨fE w _⟩
theorem gM.lt (h:gM w R cs t):R<w.heap.size:=(eY.1 h.h).1
theorem gM.below {w w':ai}{B:Nat}(h:gM w R cs t)(a:Below B w w')(b:w.heap.size<=B):gM w' R cs t:=⟨(a.block R (fK h.lt b)).trans h.h⟩
theorem gM.alloc (h:gM w R cs t)(o:Obj):gM (w.alloc o) R cs t:=h.below ((aW _ w).alloc az o) az
theorem gM.upto {w':ai}(h:gM w R cs t)(a:fJ b w w')(c:R≠b):gM w' R cs t:=⟨(a.block R h.lt c).trans h.h⟩
def put (w:ai)(R:Nat):Nat->List ax->ai
 |_,[]=>w
 |o,v::a=>put (w.setCell ⟨R,o,none⟩ v) R (o+1) a
theorem dB {B R:Nat}{A:ai}(a:B<=R):∀(vs:List ax) (o:Nat) {w:ai},Below B A w->Below B A (put w R o vs)
 |[],_,_,h=>h
 |v::vs,o,_,h=>dB a vs (o+1) (h.setCell a v)
theorem iq {R:Nat}{p:Addr}(hp:p.block≠R):∀(vs:List ax) (o:Nat) (w:ai),(put w R o vs).cell? p=w.cell? p
 |[],_,_=>rfl
 |_::vs,o,_=>(iq hp vs (o+1) _).trans (dh _ _ _ _ (λe=>hp e.symm))
inductive Er where
 |no
 |bare (c:Nat)
 |fault (c i:Nat)
def Er.is (aB aS aZ:Addr)(B:Nat):Er->ax->ai->Prop
 | .no,v,_=>v=aY
 | .bare c,v,_=>c=2/\v=er aB aS aZ 2
 | .fault c i,v,W=>(c=2\/c=3)/\∃a,B<=a/\v=aU 67 (aK a)/\W.cell? (aJ a 0)=some (ag i)/\W.cell? (aJ a 1)=some (er aB aS aZ c)
theorem sF:∀(l:List Fr) (i:Nat),(cZ i l).1=0->∀y∈l,fV y.n y.d=0
 |[],_,_,_,h=>by simp at h
 |x::r,i,h,y,a=>by
  unfold cZ at h;by_cases b:fV x.n x.d=0
  .rw[aR b] at h;rcases gP.1 a with rfl|a
   .exact b
   .exact sF r (i+1) h y a
  .grind
theorem vJ (h:(cZ 0 m.list).1=0):m.ok:=by
 have:=sF _ _ h;exact⟨this _ (by simp[Mv.list]),this _ (by simp[Mv.list]),this _ (by simp[Mv.list]),this _ (by simp[Mv.list]),this _ (by simp[Mv.list]),this _ (by simp[Mv.list])⟩
theorem WH (h:(cZ 6 p.list).1=0):p.ok:=by
 have:=sF _ _ h;exact⟨this _ (by simp[Pt.list]),this _ (by simp[Pt.list])⟩
def vL (m n:Mv):Mv×Er:=
 if(cZ 0 m.list).1≠0 then(.zero,.fault (cZ 0 m.list).1 (cZ 0 m.list).2) else if(cZ 0 n.list).1≠0 then(.zero,.fault (cZ 0 n.list).1 (cZ 0 n.list).2)
 else if(thenS m n).2=0 then((thenS m n).1,.no) else(.zero,.bare 2)
def atR (m:Mv)(p:Pt):Pt×Er:=
 if(cZ 0 m.list).1≠0 then(.zero,.fault (cZ 0 m.list).1 (cZ 0 m.list).2) else if(cZ 6 p.list).1≠0 then(.zero,.fault (cZ 6 p.list).1 (cZ 6 p.list).2)
 else if(fH 0 m p).2=0 then((fH 0 m p).1,.no) else(.zero,.bare 2)
def a6l (aB aS aZ:Addr)(m:Mv)(r:Nat×Nat):Prop:=∀W,E3 aB aS aZ W->aL 264 #[mv m] W λe b=>(∃a,W.heap.size<=a/\e=ay (aU 67 (aK a))/\b.cell? (aJ a 0)=some (ag r.2)/\b.cell? (aJ a 1)=some (er aB aS aZ r.1))/\aD W b
def Gb (aB aS aZ:Addr)(m:Mv):Prop:=∀W,E3 aB aS aZ W->aL 264 #[mv m] W λe a=>e=ay aY/\aD W a
theorem Aj (hi:m.i64)(h:(cZ 0 m.list).1=0):Gb aB aS aZ m:=λW hE=>(DI aB aS aZ m hi W hE).mono λe b ⟨⟨v,c,a⟩,d⟩=>by
 rcases a with a|a
 .grind
 .omega
theorem aaU (hi:m.i64)(h:(cZ 0 m.list).1≠0):a6l aB aS aZ m (cZ 0 m.list):=λW hE=>(DI aB aS aZ m hi W hE).mono λe b ⟨⟨v,c,a⟩,d⟩=>by
 rcases a with a|⟨_,_,f,g,i,j,k⟩
 .omega
 .grind
theorem MG {l:List Fr}{i:Nat}(h:(cZ i l).1≠0):(cZ i l).1=2\/(cZ i l).1=3:=by
 induction l generalizing i with
 |nil=>exact(h rfl).elim
 |cons x r b=>
  unfold cZ at h⊢;by_cases a:fV x.n x.d=0
  .grind
  .rw[aG a] at h⊢;have:=iD x.n x.d;simp only at h⊢;omega
theorem a1C (m n:Mv)(W:ai):∃V,(((W.alloc (ak (mA m) 165)).alloc (ak (mA n) 165)).alloc (ak zA 165))=V/\gM V (W.heap.size+1+1) zA 165/\gM V (W.heap.size+1) (mA n) 165/\gM V W.heap.size (mA m) 165/\aD W V/\V.heap.size=W.heap.size+3:=⟨_,rfl,by simpa using gM.new ((W.alloc (ak (mA m) 165)).alloc (ak (mA n) 165)) zA 165,(by simpa using gM.new (W.alloc (ak (mA m) 165)) (mA n) 165:gM _ _ _ _).alloc _,((gM.new W (mA m) 165).alloc _).alloc _,(((aW _ W).alloc az _).alloc aI _).alloc bq _,aI⟩
theorem Yy (aB aS aZ:Addr)(m n:Mv)(r:Nat×Nat)(W:ai)(hE:E3 aB aS aZ W)(h:a6l aB aS aZ m r):
  aL 195 #[mv m,mv n] W λe w'=>(∃a,W.heap.size<=a/\e=ay (aH #[mv .zero,aU 67 (aK a)])/\w'.cell? (aJ a 0)=some (ag r.2)/\w'.cell? (aJ a 1)=some (er aB aS aZ r.1))/\aD W w':=by
 have hF:∃V,(((W.alloc (ak (mA m) 165)).alloc (ak (mA n) 165)).alloc (ak zA 165))=V/\gM V (W.heap.size+1+1) zA 165/\aD W V/\V.heap.size=W.heap.size+3:=⟨_,rfl,by simpa using gM.new ((W.alloc (ak (mA m) 165)).alloc (ak (mA n) 165)) zA 165,(((aW _ W).alloc az _).alloc aI _).alloc bq _,aI⟩;go_enter func195,ntmps195;go_wp2_with(go_at_call 264;obtain⟨V,d,i,f,C⟩:=hF;refine(h _ (d▸hE.below f az)).mono ?_;rw[d];rintro e g ⟨⟨a,D,rfl,j,k⟩,b⟩;have c:=i.below b az;obtain⟨l,E,o,F,q,H,s,I,t,J,u,K,w,L,x,M,y,N,z,O,A,P,B,Q⟩:=c.six);refine bg (v:=aH #[mv .zero,aU 67 (aK a)]) (by simp[results,results195,go_sem,Mv.zero,Fr.zero,l,o,q,s,t,u,w,x,y,z,A,B]) rfl ⟨⟨a,aa,rfl,?_,?_⟩,?_⟩
 .exact(iq (p:=⟨a,0,none⟩) (R:=W.heap.size+1+1) fZ zL 0 g).trans j
 .exact(iq (p:=⟨a,1,none⟩) (R:=W.heap.size+1+1) fZ zL 0 g).trans k
 .exact dB (R:=W.heap.size+1+1) aa zL 0 (f.trans (b.mono aa))
theorem Yz (aB aS aZ:Addr)(m n:Mv)(r:Nat×Nat)(W:ai)(hE:E3 aB aS aZ W)(j:Gb aB aS aZ m)(k:a6l aB aS aZ n r):
  aL 195 #[mv m,mv n] W λe w'=>(∃b,W.heap.size<=b/\e=ay (aH #[mv .zero,aU 67 (aK b)])/\w'.cell? (aJ b 0)=some (ag r.2)/\w'.cell? (aJ b 1)=some (er aB aS aZ r.1))/\aD W w':=by
 have hF:∃V,(((W.alloc (ak (mA m) 165)).alloc (ak (mA n) 165)).alloc (ak zA 165))=V/\gM V (W.heap.size+1+1) zA 165/\gM V (W.heap.size+1) (mA n) 165/\aD W V/\V.heap.size=W.heap.size+3:=⟨_,rfl,by simpa using gM.new ((W.alloc (ak (mA m) 165)).alloc (ak (mA n) 165)) zA 165,(by simpa using gM.new (W.alloc (ak (mA m) 165)) (mA n) 165:gM _ _ _ _).alloc _,(((aW _ W).alloc az _).alloc aI _).alloc bq _,aI⟩;go_enter func195,ntmps195;go_wp2_with(first|(go_at_call_of 264 n.a.n;refine(k _ (hE.below d az|>.below a az)).mono ?_;rintro e h ⟨⟨b,X,rfl,l,o⟩,c⟩;have f:=(q.below a az).below c az;obtain⟨s,Y,t,Z,u,KZ,w,L8,x,OU,y,OV,z,OX,A,OY,B,OZ,C,P6,D,wG,E,wH⟩:=f.six)|(go_at_call_of 264 m.a.n;obtain⟨V,i,q,F,d,hz⟩:=hF;refine(j _ (i▸hE.below d az)).mono ?_;rw[i];rintro e w1 ⟨rfl,a⟩;have g:=F.below a az;obtain⟨H,I,J,K,L,M,N,O,P,Q,S,T⟩:=g.twelve));have U:=a.size;refine bg (v:=aH #[mv .zero,aU 67 (aK b)]) (by simp[results,results195,go_sem,Mv.zero,Fr.zero,s,t,u,w,x,y,z,A,B,C,D,E]) rfl ⟨⟨b,aa,rfl,?_,?_⟩,?_⟩
 .exact(iq (p:=⟨b,0,none⟩) (R:=W.heap.size+1+1) fZ zL 0 h).trans l
 .exact(iq (p:=⟨b,1,none⟩) (R:=W.heap.size+1+1) fZ zL 0 h).trans o
 .exact dB (R:=W.heap.size+1+1) aa zL 0 ((d.trans (a.mono aa)).trans (c.mono aa))
theorem P7 (aB aS aZ:Addr)(m n:Mv)(j k z:Pt)(c1 c2 c3:Nat)(r:Mv)(E:ax)(W:ai)(hE:E3 aB aS aZ W)(F:Gb aB aS aZ m)(H:Gb aB aS aZ n)
  (T1:∀b V,Wk aB aS aZ W b 0 V->aL 265 #[aK b,mv n,.agg #[ag m.a.n,ag m.a.d,ag m.b.n,ag m.b.d]] V λe w'=>e=ay (pv j)/\Wk aB aS aZ W b c1 w'/\fJ b V w')
  (T2:∀b V,Wk aB aS aZ W b c1 V->aL 265 #[aK b,mv n,.agg #[ag m.c.n,ag m.c.d,ag m.d.n,ag m.d.d]] V λe w'=>e=ay (pv k)/\Wk aB aS aZ W b c2 w'/\fJ b V w')
  (T3:∀b V,Wk aB aS aZ W b c2 V->aL 266 #[aK b,mv n,.agg #[ag m.e.n,ag m.e.d,ag m.f.n,ag m.f.d]] V λe w'=>e=ay (pv z)/\Wk aB aS aZ W b c3 w'/\fJ b V w')
  (HA:∀b V,Wk aB aS aZ W b c3 V->aL 267 #[aK b,.agg #[ag j.x.n,ag j.x.d,ag j.y.n,ag j.y.d,ag k.x.n,ag k.x.d,ag k.y.n,ag k.y.d,ag z.x.n,ag z.x.d,ag z.y.n,ag z.y.d]] V λe w'=>e=ay (aH #[mv r,E])/\aD V w'):
  aL 195 #[mv m,mv n] W λe w'=>e=ay (aH #[mv r,E])/\aD W w':=by
 have hF:=a1C m n W;go_enter func195,ntmps195;go_wp2_with(first|(go_at_call 267;clear I J K L M N O P;refine(HA _ _ (u.alloc _)).mono ?_;rintro e w6 ⟨rfl,w⟩;have Q:=(S.alloc _).below w az;have s6:=w.size;simp only[dV] at s6;obtain⟨vR,KQ,vS,KS,vT,KZ,vU,L8,zT,OU,zV,OV,zW,OX,zX,OY,zY,OZ,zZ,P6,mQ,wG,mV,wH⟩:=Q.six)|(go_at_call 266;clear T U X Y Z a4 a5 a6 a7 a8 a9 b0 b1 b2 b3 b4;refine(T3 _ _ (A.alloc _)).mono ?_;rintro e w5 ⟨rfl,u,l⟩;have S:=(b5.alloc _).upto l n2;have p:=(b6.alloc _).upto l x.ne;have q:=(gM.new w4 #[ag k.x.n,ag k.x.d,ag k.y.n,ag k.y.d] 233).upto l A.ne;have s5:=l.size;simp only[dV] at s5;have I:=λo=>aN o (p.cell 0 _ rfl);have J:=λo=>aN o (p.cell 1 _ rfl);have K:=λo=>aN o (p.cell 2 _ rfl);have L:=λo=>aN o (p.cell 3 _ rfl);have M:=λo=>aN o (q.cell 0 _ rfl);have N:=λo=>aN o (q.cell 1 _ rfl);have O:=λo=>aN o (q.cell 2 _ rfl);have P:=λo=>aN o (q.cell 3 _ rfl))|(go_at_call_of 265 m.c.n;clear b7 b8 b9 c0 c4 c5 c6 c7 c8 c9 d0 d1 d2 d3 d4 d6;refine(T2 _ _ (x.alloc _)).mono ?_;rintro e w4 ⟨rfl,A,g⟩;have a:=(c.alloc _).upto g n1;have s:=(h.alloc _).upto g n0;have b5:=(d7.alloc _).upto g n2;have b6:=(gM.new w3 #[ag j.x.n,ag j.x.d,ag j.y.n,ag j.y.d] 233).upto g x.ne;have s4:=g.size;simp only[dV] at s4;have T:=λo=>aN o (a.cell 0 _ rfl);have U:=λo=>aN o (a.cell 1 _ rfl);have X:=λo=>aN o (a.cell 2 _ rfl);have Y:=λo=>aN o (a.cell 3 _ rfl);have Z:=λo=>aN o (a.cell 4 _ rfl);have a4:=λo=>aN o (a.cell 5 _ rfl);have a5:=λo=>aN o (a.cell 6 _ rfl);have a6:=λo=>aN o (a.cell 7 _ rfl);have a7:=λo=>aN o (a.cell 8 _ rfl);have a8:=λo=>aN o (a.cell 9 _ rfl);have a9:=λo=>aN o (a.cell 10 _ rfl);have b0:=λo=>aN o (a.cell 11 _ rfl);have b1:=λo=>aN o (s.cell 8 _ rfl);have b2:=λo=>aN o (s.cell 9 _ rfl);have b3:=λo=>aN o (s.cell 10 _ rfl);have b4:=λo=>aN o (s.cell 11 _ rfl))|(go_at_call_of 265 m.a.n;clear d8 d9 e0 e1 e2 e3 e4 e5 e6 e7 YB YC e8 e9 f0 f1;refine(T1 D.heap.size _ ⟨hE,y.alloc y.size _,y.size,dN rfl rfl,qC rfl⟩).mono ?_;rintro e w3 ⟨rfl,x,t⟩;have n0:W.heap.size≠D.heap.size:=aa;have n1:W.heap.size+1≠D.heap.size:=aa;have n2:W.heap.size+1+1≠D.heap.size:=aa;have c:=(d.alloc _).upto t n1;have h:=(B.alloc _).upto t n0;have d7:=(f2.alloc _).upto t n2;have s3:=t.size;simp only[dV] at s3;have b7:=λo=>aN o (c.cell 0 _ rfl);have b8:=λo=>aN o (c.cell 1 _ rfl);have b9:=λo=>aN o (c.cell 2 _ rfl);have c0:=λo=>aN o (c.cell 3 _ rfl);have c4:=λo=>aN o (c.cell 4 _ rfl);have c5:=λo=>aN o (c.cell 5 _ rfl);have c6:=λo=>aN o (c.cell 6 _ rfl);have c7:=λo=>aN o (c.cell 7 _ rfl);have c8:=λo=>aN o (c.cell 8 _ rfl);have c9:=λo=>aN o (c.cell 9 _ rfl);have d0:=λo=>aN o (c.cell 10 _ rfl);have d1:=λo=>aN o (c.cell 11 _ rfl);have d2:=λo=>aN o (h.cell 4 _ rfl);have d3:=λo=>aN o (h.cell 5 _ rfl);have d4:=λo=>aN o (h.cell 6 _ rfl);have d6:=λo=>aN o (h.cell 7 _ rfl))|(go_at_call_of 264 n.a.n;clear f3 f4 f5 f6 f7 f8 f9 g0 g1 g2 g3 g4;refine(H _ (hE.below hb az|>.below f az)).mono ?_;rintro e D ⟨rfl,i⟩;have d:=C.below i az;have B:=(BM.below f az).below i az;have f2:=(BR.below f az).below i az;have s1:=f.size;have s2:=i.size;have y:=(hb.trans (f.mono aa)).trans (i.mono aa);have d8:=λo=>aN o (d.cell 0 _ rfl);have d9:=λo=>aN o (d.cell 1 _ rfl);have e0:=λo=>aN o (d.cell 2 _ rfl);have e1:=λo=>aN o (d.cell 3 _ rfl);have e2:=λo=>aN o (d.cell 4 _ rfl);have e3:=λo=>aN o (d.cell 5 _ rfl);have e4:=λo=>aN o (d.cell 6 _ rfl);have e5:=λo=>aN o (d.cell 7 _ rfl);have e6:=λo=>aN o (d.cell 8 _ rfl);have e7:=λo=>aN o (d.cell 9 _ rfl);have YB:=λo=>aN o (d.cell 10 _ rfl);have YC:=λo=>aN o (d.cell 11 _ rfl);have e8:=λo=>aN o (B.cell 0 _ rfl);have e9:=λo=>aN o (B.cell 1 _ rfl);have f0:=λo=>aN o (B.cell 2 _ rfl);have f1:=λo=>aN o (B.cell 3 _ rfl))|(go_at_call_of 264 m.a.n;obtain⟨V,hV,BR,BN,BM,hb,hz⟩:=hF;refine(F _ (hV▸hE.below hb az)).mono ?_;rw[hV];rintro e w1 ⟨rfl,f⟩;have C:=BN.below f az;obtain⟨f3,f4,f5,f6,f7,f8,f9,g0,g1,g2,g3,g4⟩:=C.twelve))
 refine bg (v:=aH #[mv r,E]) (by simp[results,results195,go_sem,vR,vS,vT,vU,zT,zV,zW,zX,zY,zZ,mQ,mV]) rfl ⟨rfl,?_⟩;exact dB (R:=W.heap.size+1+1) aa [ag r.a.n,ag r.a.d,ag r.b.n,ag r.b.d,ag r.c.n,ag r.c.d,ag r.d.n,ag r.d.d,ag r.e.n,ag r.e.d,ag r.f.n,ag r.f.d] 0 ((u.hb.alloc u.hb.size _).trans (w.mono bq))
theorem Gc (aB aS aZ:Addr)(p:Pt)(hi:p.i64)(W:ai)(hE:E3 aB aS aZ W):
  aL 326 #[.func (.func 366) #[] #[.pointer (some ⟨W.heap.size+1+1,0,none⟩),.pointer (some ⟨W.heap.size+1,0,none⟩)]] (((W.alloc (ak #[.int .i64 p.x.n,.int .i64 p.x.d,.int .i64 p.y.n,.int .i64 p.y.d] 163)).alloc (ak #[.int .i64 6] 3)).alloc (ak #[aj (some ⟨W.heap.size,0,none⟩) 2 2] 402)) λe w'=>(∃v,e=ay v/\Told aB aS aZ W.heap.size (cZ 6 p.list) v w')/\aD W w':=by
 have c:=a1w p hi W 163 3 402;have d:(((W.alloc (ak #[.int .i64 p.x.n,.int .i64 p.x.d,.int .i64 p.y.n,.int .i64 p.y.d] 163)).alloc (ak #[.int .i64 6] 3)).alloc (ak #[aj (some ⟨W.heap.size,0,none⟩) 2 2] 402)).heap.size=W.heap.size+3:=aI;have a:aD W (((W.alloc (ak #[.int .i64 p.x.n,.int .i64 p.x.d,.int .i64 p.y.n,.int .i64 p.y.d] 163)).alloc (ak #[.int .i64 6] 3)).alloc (ak #[aj (some ⟨W.heap.size,0,none⟩) 2 2] 402)):=(((aW _ W).alloc az _).alloc aI _).alloc bq _;rw[<- d] at c;refine(yL aB aS aZ _ _ _ _ _ _ _ c (hE.below a az)).mono ?_;rintro e w' ⟨⟨v,f,g⟩,b⟩;exact⟨⟨v,f,g.mono a.size⟩,a.trans (b.mono a.size)⟩
def a9K (aB aS aZ:Addr)(p:Pt):Prop:=∀W,E3 aB aS aZ W->aL 326 #[.func (.func 366) #[] #[.pointer (some ⟨W.heap.size+1+1,0,none⟩),.pointer (some ⟨W.heap.size+1,0,none⟩)]] (((W.alloc (ak #[.int .i64 p.x.n,.int .i64 p.x.d,.int .i64 p.y.n,.int .i64 p.y.d] 163)).alloc (ak #[.int .i64 6] 3)).alloc (ak #[aj (some ⟨W.heap.size,0,none⟩) 2 2] 402)) λe a=>e=ay aY/\aD W a
def aff (aB aS aZ:Addr)(p:Pt)(r:Nat×Nat):Prop:=∀W,E3 aB aS aZ W->aL 326 #[.func (.func 366) #[] #[.pointer (some ⟨W.heap.size+1+1,0,none⟩),.pointer (some ⟨W.heap.size+1,0,none⟩)]] (((W.alloc (ak #[.int .i64 p.x.n,.int .i64 p.x.d,.int .i64 p.y.n,.int .i64 p.y.d] 163)).alloc (ak #[.int .i64 6] 3)).alloc (ak #[aj (some ⟨W.heap.size,0,none⟩) 2 2] 402)) λe b=>(∃a,W.heap.size<=a/\e=ay (aU 67 (aK a))/\b.cell? (aJ a 0)=some (.int .i64 r.2)/\b.cell? (aJ a 1)=some (er aB aS aZ r.1))/\aD W b
theorem a9L (hi:p.i64)(h:(cZ 6 p.list).1=0):a9K aB aS aZ p:=λW hE=>(Gc aB aS aZ p hi W hE).mono λe b ⟨⟨v,c,a⟩,d⟩=>by
 rcases a with a|a
 .grind
 .omega
theorem ajn (hi:p.i64)(h:(cZ 6 p.list).1≠0):aff aB aS aZ p (cZ 6 p.list):=λW hE=>(Gc aB aS aZ p hi W hE).mono λe b ⟨⟨v,c,a⟩,d⟩=>by
 rcases a with a|⟨_,_,f,g,i,j,k⟩
 .omega
 .grind
theorem Ub (m:Mv)(p:Pt)(W:ai):∃V,(((W.alloc (ak (mA m) 165)).alloc (ak #[.int .i64 p.x.n,.int .i64 p.x.d,.int .i64 p.y.n,.int .i64 p.y.d] 233)).alloc (ak #[.int .i64 0,.int .i64 0,.int .i64 0,.int .i64 0] 233))=V/\gM V (W.heap.size+1+1) #[.int .i64 0,.int .i64 0,.int .i64 0,.int .i64 0] 233/\gM V (W.heap.size+1) #[.int .i64 p.x.n,.int .i64 p.x.d,.int .i64 p.y.n,.int .i64 p.y.d] 233/\gM V W.heap.size (mA m) 165/\aD W V/\V.heap.size=W.heap.size+3:=⟨_,rfl,by simpa using gM.new ((W.alloc (ak (mA m) 165)).alloc (ak #[.int .i64 p.x.n,.int .i64 p.x.d,.int .i64 p.y.n,.int .i64 p.y.d] 233)) #[.int .i64 0,.int .i64 0,.int .i64 0,.int .i64 0] 233,(by simpa using gM.new (W.alloc (ak (mA m) 165)) #[.int .i64 p.x.n,.int .i64 p.x.d,.int .i64 p.y.n,.int .i64 p.y.d] 233:gM _ _ _ _).alloc _,((gM.new W (mA m) 165).alloc _).alloc _,(((aW _ W).alloc az _).alloc aI _).alloc bq _,aI⟩
theorem a6o (aB aS aZ:Addr)(m:Mv)(p:Pt)(r:Nat×Nat)(W:ai)(hE:E3 aB aS aZ W)(h:a6l aB aS aZ m r):
  aL 318 #[mv m,pv p] W λe w'=>(∃b,W.heap.size<=b/\e=ay (aH #[pv .zero,aU 67 (aK b)])/\w'.cell? (aJ b 0)=some (.int .i64 r.2)/\w'.cell? (aJ b 1)=some (er aB aS aZ r.1))/\aD W w':=by
 have hF:=Ub m p W;go_enter func318,ntmps318;go_wp2_with(go_at_call 264;obtain⟨V,d,i,s,t,f,u⟩:=hF;refine(h _ (d▸hE.below f az)).mono ?_;rw[d];rintro e g ⟨⟨b,w,rfl,j,k⟩,c⟩;have a:=i.below c az;have l:=a.cell 0 _ rfl;have x:=a.fG 0 _ rfl;have n:=a.cell 1 _ rfl;have y:=a.fG 1 _ rfl;have o:=a.cell 2 _ rfl;have z:=a.fG 2 _ rfl;have q:=a.cell 3 _ rfl;have A:=a.fG 3 _ rfl);refine bg (v:=aH #[pv .zero,aU 67 (aK b)]) (by simp[results,results318,go_sem,Pt.zero,Fr.zero,l,n,o,q]) rfl ⟨⟨b,aa,rfl,?_,?_⟩,?_⟩
 .exact(iq (p:=⟨b,0,none⟩) (R:=W.heap.size+1+1) fZ [.int .i64 0,.int .i64 0,.int .i64 0,.int .i64 0] 0 g).trans j
 .exact(iq (p:=⟨b,1,none⟩) (R:=W.heap.size+1+1) fZ [.int .i64 0,.int .i64 0,.int .i64 0,.int .i64 0] 0 g).trans k
 .exact dB (R:=W.heap.size+1+1) aa [.int .i64 0,.int .i64 0,.int .i64 0,.int .i64 0] 0 (f.trans (c.mono aa))
theorem a6p (aB aS aZ:Addr)(m:Mv)(p:Pt)(r:Nat×Nat)(W:ai)(hE:E3 aB aS aZ W)(g:Gb aB aS aZ m)(n:aff aB aS aZ p r):
  aL 318 #[mv m,pv p] W λe w'=>(∃c,W.heap.size<=c/\e=ay (aH #[pv .zero,aU 67 (aK c)])/\w'.cell? (aJ c 0)=some (.int .i64 r.2)/\w'.cell? (aJ c 1)=some (er aB aS aZ r.1))/\aD W w':=by
 have hF:=Ub m p W;have o:=uJ;go_enter func318,ntmps318;go_wp2_with(first|(go_at_call 326;refine h.mono ?_;rintro e j ⟨⟨c,E,rfl,q,s⟩,f⟩;have a:=(t.below b az).below f az;have u:=a.cell 0 _ rfl;have F:=a.fG 0 _ rfl;have w:=a.cell 1 _ rfl;have H:=a.fG 1 _ rfl;have x:=a.cell 2 _ rfl;have I:=a.fG 2 _ rfl;have y:=a.cell 3 _ rfl;have J:=a.fG 3 _ rfl)|(go_at_call 349;refine(o 6 (aj (some ⟨k.heap.size,0,none⟩) 2 2) _ _ _ rfl _).mono ?_;rintro e K ⟨rfl,rfl⟩;have h:=n k (hE.below i az|>.below b az);simp only[dV])|(go_at_call 264;obtain⟨V,l,t,z,L,i,M⟩:=hF;refine(g _ (l▸hE.below i az)).mono ?_;rw[l];rintro e k ⟨rfl,b⟩;have d:=z.below b az;have N:=b.size;have A:=d.cell 0 _ rfl;have B:=d.cell 1 _ rfl;have C:=d.cell 2 _ rfl;have D:=d.cell 3 _ rfl));refine bg (v:=aH #[pv .zero,aU 67 (aK c)]) (by simp[results,results318,go_sem,Pt.zero,Fr.zero,u,w,x,y]) rfl ⟨⟨c,aa,rfl,?_,?_⟩,?_⟩
 .exact(iq (p:=⟨c,0,none⟩) (R:=W.heap.size+1+1) fZ [.int .i64 0,.int .i64 0,.int .i64 0,.int .i64 0] 0 j).trans q
 .exact(iq (p:=⟨c,1,none⟩) (R:=W.heap.size+1+1) fZ [.int .i64 0,.int .i64 0,.int .i64 0,.int .i64 0] 0 j).trans s
 .exact dB (R:=W.heap.size+1+1) aa [.int .i64 0,.int .i64 0,.int .i64 0,.int .i64 0] 0 ((i.trans (b.mono aa)).trans (f.mono aa))
theorem a1D (aB aS aZ:Addr)(m:Mv)(p q:Pt)(c:Nat)(r:Pt)(s:ax)(hc:(c=0/\r=q/\s=aY)\/(c=2/\r=.zero/\s=aU 453 (.pointer (some aB))))(W:ai)(hE:E3 aB aS aZ W)(t:Gb aB aS aZ m)(HP:a9K aB aS aZ p)
  (T:∀b V,Wk aB aS aZ W b 0 V->aL 266 #[aK b,mv m,pv p] V λe w'=>e=ay (.agg #[.int .i64 q.x.n,.int .i64 q.x.d,.int .i64 q.y.n,.int .i64 q.y.d])/\Wk aB aS aZ W b c w'/\fJ b V w'):
  aL 318 #[mv m,pv p] W λe w'=>e=ay (aH #[pv r,s])/\aD W w':=by
 have hF:=Ub m p W;have HN:=uJ;go_enter func318,ntmps318;go_upto_region 9 with(first|(go_at_call 266;clear u w x y z A B C D E YB YC F H I J;refine(T _ _ ⟨hE,j.alloc j.size _,j.size,dN rfl rfl,qC rfl⟩).mono ?_;rintro e U ⟨rfl,K,l⟩;have n2:W.heap.size+1+1≠L.heap.size:=aa;have a:=((M.alloc _).upto l n2).alloc (ak #[.int .i64 q.x.n,.int .i64 q.x.d,.int .i64 q.y.n,.int .i64 q.y.d] 233);have X:=a.cell 0 _ rfl;have KQ:=a.fG 0 _ rfl;have Y:=a.cell 1 _ rfl;have KS:=a.fG 1 _ rfl;have Z:=a.cell 2 _ rfl;have KZ:=a.fG 2 _ rfl;have vU:=a.cell 3 _ rfl;have L8:=a.fG 3 _ rfl;have k:=K.alloc (ak #[.int .i64 q.x.n,.int .i64 q.x.d,.int .i64 q.y.n,.int .i64 q.y.d] 233);have kc:=k.cell;have nq:¬L.heap.size=W.heap.size+1+1:=aa;have a4:¬W.heap.size+1+1=L.heap.size:=aa;have s3:=l.size;simp only[dV] at s3;have nr:¬W.heap.size+1+1=U.heap.size:=aa;have a5:¬U.heap.size=W.heap.size+1+1:=aa)|(go_at_call 326;refine n.mono ?_;rintro e L ⟨rfl,g⟩;clear N O P Q n;have f:=(BM.below d az).below g az;have i:=h.below g az;have M:=(BR.below d az).below g az;have s2:=g.size;have j:=(S.trans (d.mono aa)).trans (g.mono aa);have u:=λo=>aN o (f.cell 0 _ rfl);have w:=λo=>aN o (f.cell 1 _ rfl);have x:=λo=>aN o (f.cell 2 _ rfl);have y:=λo=>aN o (f.cell 3 _ rfl);have z:=λo=>aN o (f.cell 4 _ rfl);have A:=λo=>aN o (f.cell 5 _ rfl);have B:=λo=>aN o (f.cell 6 _ rfl);have C:=λo=>aN o (f.cell 7 _ rfl);have D:=λo=>aN o (f.cell 8 _ rfl);have E:=λo=>aN o (f.cell 9 _ rfl);have YB:=λo=>aN o (f.cell 10 _ rfl);have YC:=λo=>aN o (f.cell 11 _ rfl);have F:=λo=>aN o (i.cell 0 _ rfl);have H:=λo=>aN o (i.cell 1 _ rfl);have I:=λo=>aN o (i.cell 2 _ rfl);have J:=λo=>aN o (i.cell 3 _ rfl))|(go_at_call 349;refine(HN 6 (aj (some ⟨w1.heap.size,0,none⟩) 2 2) _ _ _ rfl _).mono ?_;rintro e wn ⟨rfl,rfl⟩;have n:=HP w1 (hE.below S az|>.below d az);simp only[dV])|(go_at_call 264;obtain⟨V,hV,BR,BP,BM,S,hz⟩:=hF;refine(t _ (hV▸hE.below S az)).mono ?_;rw[hV];rintro e w1 ⟨rfl,d⟩;have h:=BP.below d az;have s1:=d.size;have N:=h.cell 0 _ rfl;have O:=h.cell 1 _ rfl;have P:=h.cell 2 _ rfl;have Q:=h.cell 3 _ rfl))
 rcases hc with⟨rfl,rfl,rfl⟩|⟨rfl,rfl,rfl⟩
 .simp only[wF] at kc;go_wp2;refine bg (v:=aH #[pv r,aY]) (by simp[results,results318,go_sem,X,Y,Z,vU]) rfl ⟨rfl,?_⟩;exact dB (R:=W.heap.size+1+1) aa [.int .i64 r.x.n,.int .i64 r.x.d,.int .i64 r.y.n,.int .i64 r.y.d] 0 k.hb
 .simp only[a1x] at kc;go_upto_region 10 with fail;go_region;go_wp2;refine bg (v:=aH #[pv .zero,aU 453 (.pointer (some aB))]) (by simp[results,results318,go_sem,Pt.zero,Fr.zero,X,Y,Z,vU]) rfl ⟨rfl,?_⟩;exact dB (R:=W.heap.size+1+1) aa [.int .i64 0,.int .i64 0,.int .i64 0,.int .i64 0] 0 (below_drewN k.hb 1)
theorem jR (n:Int)(W:ai):aL 133 #[ag n] W λe w'=>e=ay (.agg #[ag n,ag 1])/\aD W w':=by
 go_enter func133,ntmps133;go_wp2;refine bg (v:=.agg #[ag n,ag 1]) (by simp[results,results133,go_sem]) rfl ⟨rfl,?_⟩;exact(aW _ W).alloc az _
theorem uK (W:ai):aL 78 #[] W λe w'=>e=ay (mv .one)/\aD W w':=by
 obtain⟨h,K2,i,j,k,l⟩:=And.intro jR (And.intro jR (And.intro jR (And.intro jR (And.intro jR jR))));have s:=gM.new W zA 165;have m:=(aW W.heap.size W).alloc az (ak zA 165);go_enter func78,ntmps78;go_wp2_with(first|(go_at_call 133;refine(h _ _).mono ?_;clear h;rintro e O ⟨rfl,a⟩;have t:=s.below a az;have n:=m.trans (a.mono m.size))|(go_at_call 133;refine(K2 _ _).mono ?_;clear K2;rintro e P ⟨rfl,b⟩;have u:=t.below b az;have o:=n.trans (b.mono n.size))|(go_at_call 133;refine(i _ _).mono ?_;clear i;rintro e Q ⟨rfl,c⟩;have w:=u.below c az;have p:=o.trans (c.mono o.size))|(go_at_call 133;refine(j _ _).mono ?_;clear j;rintro e S ⟨rfl,d⟩;have x:=w.below d az;have q:=p.trans (d.mono p.size))|(go_at_call 133;refine(k _ _).mono ?_;clear k;rintro e T ⟨rfl,f⟩;have y:=x.below f az;have r:=q.trans (f.mono q.size))|(go_at_call 133;refine(l _ _).mono ?_;clear l;rintro e U ⟨rfl,g⟩;have z:=y.below g az;have A:=r.trans (g.mono r.size);obtain⟨B,V,C,X,D,Y,E,Z,F,OU,H,OV,I,OX,J,OY,K,OZ,L,P6,M,wG,N,wH⟩:=z.six));refine bg (v:=mv .one) (by simp[results,results78,go_sem,Mv.one,Fr.whole,B,C,D,E,F,H,I,J,K,L,M,N]) rfl ⟨rfl,?_⟩;exact dB (R:=W.heap.size) az oL 0 A
theorem P9 (m n:Mv):∃a d b e c f,eO 0 n ⟨m.a,m.b⟩=(a,d)/\eO d n ⟨m.c,m.d⟩=(b,e)/\fH e n ⟨m.e,m.f⟩=(c,f)/\thenS m n=(⟨a.x,a.y,b.x,b.y,c.x,c.y⟩,f):=by
 unfold thenS;grind
theorem Gd (aB aS aZ:Addr){m n:Mv}(a:m.ok)(d:n.ok)(W:ai):∃f j g k i l,thenS m n=(⟨f.x,f.y,g.x,g.y,i.x,i.y⟩,l)/\
  (∀b V,Wk aB aS aZ W b 0 V->aL 265 #[aK b,mv n,.agg #[ag m.a.n,ag m.a.d,ag m.b.n,ag m.b.d]] V λe w'=>e=ay (pv f)/\Wk aB aS aZ W b j w'/\fJ b V w')/\
  (∀b V,Wk aB aS aZ W b j V->aL 265 #[aK b,mv n,.agg #[ag m.c.n,ag m.c.d,ag m.d.n,ag m.d.d]] V λe w'=>e=ay (pv g)/\Wk aB aS aZ W b k w'/\fJ b V w')/\
  (∀b V,Wk aB aS aZ W b k V->aL 266 #[aK b,mv n,.agg #[ag m.e.n,ag m.e.d,ag m.f.n,ag m.f.d]] V λe w'=>e=ay (pv i)/\Wk aB aS aZ W b l w'/\fJ b V w'):=by
 obtain⟨f,j,g,k,i,l,q,r,w,x⟩:=P9 m n;obtain⟨o,_⟩:=mJ (c:=0) (m:=n) (p:=⟨m.a,m.b⟩) (.inl rfl) d ⟨a.1,a.2.1⟩;rw[q] at o;obtain⟨s,_⟩:=mJ (m:=n) (p:=⟨m.c,m.d⟩) o d ⟨a.2.2.1,a.2.2.2.1⟩;rw[r] at s;have t:=λb V h=>zm (aB:=aB) (aS:=aS) (aZ:=aZ) (w0:=W) (b:=b) (c:=0) (m:=n) (p:=⟨m.a,m.b⟩) (.inl rfl) d ⟨a.1,a.2.1⟩ V h;have u:=λb V h=>zm (aB:=aB) (aS:=aS) (aZ:=aZ) (w0:=W) (b:=b) (m:=n) (p:=⟨m.c,m.d⟩) o d ⟨a.2.2.1,a.2.2.2.1⟩ V h;have v:=λb V h=>Cg (aB:=aB) (aS:=aS) (aZ:=aZ) (w0:=W) (b:=b) (m:=n) (p:=⟨m.e,m.f⟩) s d ⟨a.2.2.2.2.1,a.2.2.2.2.2⟩ V h;rw[q] at t;rw[r] at u;rw[w] at v;exact⟨f,j,g,k,i,l,x,t,u,v⟩
theorem WJ {aB aS aZ:Addr}{n x:Mv}(k:m.i64)(l:n.i64)(h:vL m n=(x,.no))(W:ai)(hE:E3 aB aS aZ W):
  aL 195 #[mv m,mv n] W λe w'=>e=ay (aH #[mv x,aY])/\aD W w':=by
 unfold vL at h;by_cases a:(cZ 0 m.list).1=0
 .rw[aG (by simp[a])] at h;by_cases c:(cZ 0 n.list).1=0
  .rw[aG (by simp[c])] at h;by_cases d:(thenS m n).2=0
   .rw[aR d] at h;have j:(thenS m n).1=x:=by grind
    obtain⟨f,o,g,p,i,q,r,s,t,u⟩:=Gd aB aS aZ (vJ a) (vJ c) W;rw[r] at j d;obtain rfl:q=0:=d;subst j;exact P7 aB aS aZ m n f g i o p _ _ _ W hE (Aj k a) (Aj l c) s t u λb V h=>Yx ⟨f.x,f.y,g.x,g.y,i.x,i.y⟩ V h
   .grind
  .grind
 .grind
theorem WL {aB aS aZ:Addr}{n:Mv}(k:m.i64)(o:n.i64)(h:∀x,vL m n≠(x,.no))(W:ai)(hE:E3 aB aS aZ W):
  aL 195 #[mv m,mv n] W λe w'=>(∃v,e=ay (aH #[mv .zero,v])/\(vL m n).2.is aB aS aZ W.heap.size v w')/\aD W w':=by
 unfold vL at h⊢;by_cases a:(cZ 0 m.list).1=0
 .rw[aG (by simp[a])] at h⊢;by_cases c:(cZ 0 n.list).1=0
  .rw[aG (by simp[c])] at h⊢;by_cases p:(thenS m n).2=0
   .grind
   .rw[aG p];have q:(thenS m n).2=2:=(Cc (vJ a) (vJ c)).1.resolve_left p;obtain⟨d,r,f,s,g,t,u,w,y,z⟩:=Gd aB aS aZ (vJ a) (vJ c) W;rw[u] at q;obtain rfl:t=2:=q;refine(P7 aB aS aZ m n d f g r s _ _ _ W hE (Aj k a) (Aj o c) w y z λb V h=>Ua ⟨d.x,d.y,f.x,f.y,g.x,g.y⟩ V h).mono ?_;rintro e w' ⟨i,j⟩;exact⟨⟨_,i,rfl,rfl⟩,j⟩
  .rw[aR c];refine(Yz aB aS aZ m n _ W hE (Aj k a) (aaU o c)).mono ?_;rintro e w' ⟨⟨l,d,i,f,g⟩,j⟩;exact⟨⟨_,i,MG c,l,d,rfl,f,g⟩,j⟩
 .rw[aR a];refine(Yy aB aS aZ m n _ W hE (aaU k a)).mono ?_;rintro e w' ⟨⟨l,d,i,f,g⟩,j⟩;exact⟨⟨_,i,MG a,l,d,rfl,f,g⟩,j⟩
theorem afg {aB aS aZ:Addr}{q:Pt}(g:m.i64)(hp:p.i64)(h:atR m p=(q,.no))(W:ai)(hE:E3 aB aS aZ W):
  aL 318 #[mv m,pv p] W λe w'=>e=ay (aH #[pv q,aY])/\aD W w':=by
 unfold atR at h;by_cases a:(cZ 0 m.list).1=0
 .rw[aG (by simp[a])] at h;by_cases d:(cZ 6 p.list).1=0
  .rw[aG (by simp[d])] at h;by_cases f:(fH 0 m p).2=0
   .rw[aR f] at h;obtain rfl:(fH 0 m p).1=q:=by simpa using congrArg Prod.fst h
    have T:=λb V h=>Cg (aB:=aB) (aS:=aS) (aZ:=aZ) (w0:=W) (b:=b) (c:=0) (.inl rfl) (vJ a) (WH d) V h;rw[f] at T;exact a1D aB aS aZ m p _ _ _ _ (.inl ⟨rfl,rfl,rfl⟩) W hE (Aj g a) (a9L hp d) T
   .grind
  .grind
 .grind
theorem afh {aB aS aZ:Addr}{m:Mv}{p:Pt}(i:m.i64)(hp:p.i64)(h:∀q,atR m p≠(q,.no))(W:ai)(hE:E3 aB aS aZ W):
  aL 318 #[mv m,pv p] W λe w'=>(∃v,e=ay (aH #[pv .zero,v])/\(atR m p).2.is aB aS aZ W.heap.size v w')/\aD W w':=by
 unfold atR at h⊢;by_cases a:(cZ 0 m.list).1=0
 .rw[aG (by simp[a])] at h⊢;by_cases d:(cZ 6 p.list).1=0
  .rw[aG (by simp[d])] at h⊢;by_cases o:(fH 0 m p).2=0
   .grind
   .rw[aG o];have r:(fH 0 m p).2=2:=(zl (c:=0) (.inl rfl) (vJ a) (WH d)).1.resolve_left o;have T:=λb V h=>Cg (aB:=aB) (aS:=aS) (aZ:=aZ) (w0:=W) (b:=b) (c:=0) (.inl rfl) (vJ a) (WH d) V h;rw[r] at T;refine(a1D aB aS aZ m p _ _ _ _ (.inr ⟨rfl,rfl,rfl⟩) W hE (Aj i a) (a9L hp d) T).mono ?_;rintro e w' ⟨f,g⟩;exact⟨⟨_,f,rfl,rfl⟩,g⟩
  .rw[aR d];refine(a6p aB aS aZ m p _ W hE (Aj i a) (ajn hp d)).mono ?_;rintro e w' ⟨⟨j,k,f,l,n⟩,g⟩;exact⟨⟨_,f,MG d,j,k,rfl,l,n⟩,g⟩
 .rw[aR a];refine(a6o aB aS aZ m p _ W hE (aaU i a)).mono ?_;rintro e w' ⟨⟨j,k,f,l,n⟩,g⟩;exact⟨⟨_,f,MG a,j,k,rfl,l,n⟩,g⟩
theorem jA (P:Program)(w:ai)(a:Addr)(m:Mode)(f:Fn)(x y:Array ax):(store a (.func f x y) m).run P w=stored P w a (.func f x y) m:=run_store P w a _ m rfl
attribute [local go_sem] jA
abbrev Pb:aO:=⟨#[109,111,118,101]⟩
abbrev Gf:aO:=⟨#[115,99,97,108,101]⟩
abbrev Gg:aO:=⟨#[116,117,114,110]⟩
abbrev Pd:aO:=⟨#[115,107,101,119]⟩
theorem wI (k:Nat)(W:ai):aL 354 #[.func (.func k) #[] #[]] W λe w'=>e=ay (.func (.func 367) #[] #[aK W.heap.size])/\w'=W.alloc (ak #[.func (.func k) #[] #[]] 443):=by
 go_enter func354,ntmps354;go_wp2;go_ret;exact⟨rfl,rfl⟩
theorem Pe (W:ai):aL 324 #[au Pb] W λe w'=>(∃B,W.heap.size<=B/\e=ay (aH #[.agg #[ag 2,.func (.func 367) #[] #[aK B]],.bool true])/\w'.cell? (aJ B 0)=some (.func (.func 355) #[] #[]))/\aD W w':=by
 have a:=wI;go_enter func324,ntmps324;go_wp2_with(go_at_call 354;refine(a _ _).mono ?_;rintro e b ⟨rfl,rfl⟩);refine bg (v:=aH #[.agg #[ag 2,.func (.func 367) #[] #[.pointer (some ⟨W.heap.size+1,0,none⟩)]],.bool true]) (by simp[results,results324,go_sem]) rfl ⟨⟨W.heap.size+1,aa,rfl,dN aI rfl⟩,?_⟩;exact((aW _ W).alloc az _).alloc aI _
theorem MH (W:ai):aL 324 #[au Gf] W λe w'=>(∃B,W.heap.size<=B/\e=ay (aH #[.agg #[ag 2,.func (.func 367) #[] #[aK B]],.bool true])/\w'.cell? (aJ B 0)=some (.func (.func 356) #[] #[]))/\aD W w':=by
 have a:=wI;go_enter func324,ntmps324;go_wp2_with(go_at_call 354;refine(a _ _).mono ?_;rintro e b ⟨rfl,rfl⟩);refine bg (v:=aH #[.agg #[ag 2,.func (.func 367) #[] #[.pointer (some ⟨W.heap.size+1,0,none⟩)]],.bool true]) (by simp[results,results324,go_sem]) rfl ⟨⟨W.heap.size+1,aa,rfl,dN aI rfl⟩,?_⟩;exact((aW _ W).alloc az _).alloc aI _
theorem Pf (W:ai):aL 324 #[au Pd] W λe w'=>(∃B,W.heap.size<=B/\e=ay (aH #[.agg #[ag 1,.func (.func 367) #[] #[aK B]],.bool true])/\w'.cell? (aJ B 0)=some (.func (.func 358) #[] #[]))/\aD W w':=by
 have a:=wI;go_enter func324,ntmps324;go_wp2_with(go_at_call 354;refine(a _ _).mono ?_;rintro e b ⟨rfl,rfl⟩);refine bg (v:=aH #[.agg #[ag 1,.func (.func 367) #[] #[.pointer (some ⟨W.heap.size+1,0,none⟩)]],.bool true]) (by simp[results,results324,go_sem]) rfl ⟨⟨W.heap.size+1,aa,rfl,dN aI rfl⟩,?_⟩;exact((aW _ W).alloc az _).alloc aI _
theorem wJ (W:ai):aL 324 #[au Gg] W λe w'=>e=ay (aH #[.agg #[ag 1,.func (.func 357) #[] #[]],.bool true])/\aD W w':=by
 go_enter func324,ntmps324;go_wp2;refine bg (v:=aH #[.agg #[ag 1,.func (.func 357) #[] #[]],.bool true]) (by simp[results,results324,go_sem]) rfl ⟨rfl,?_⟩;exact(aW _ W).alloc az _

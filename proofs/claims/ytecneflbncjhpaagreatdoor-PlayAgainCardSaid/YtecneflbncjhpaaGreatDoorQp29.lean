/- Parts of the proof. -/
import Derived.Test.YtecneflbncjhpaaGreatDoorQp28
namespace Go.Proofs.YtecneflbncjhpaaGreatDoor
section
def fK (p:Pc):Pm:=⟨p.pts,⟨p.fill.toArray⟩,⟨p.rule.toArray⟩⟩
def oG (p:Pc):Bs×Bs×List Qt:=(p.fill,p.rule,p.pts)
def yw (l:List Pc)(y:Int):List Pc:=l.filter fun p=>aN p.pts y
def II (a b:List Pc):Prop:=a.map oG=b.map oG
def EJ (a b:List Pc)(h:Nat):List Nat:=(List.range h).filter fun(y:Nat)=> !decide ((yw a y).map oG=(yw b y).map oG)
def Dk (cells:List aC)(b:List Pc)(w:Nat):List Nat->List aC
 |[]=>cells
 |y::l=>Dk (cells.take (w*y)++nP aN (b.map fK) w (y:Int)++cells.drop (w*y+w)) b w l
theorem Pn (l:List Pc)(y:Int):(l.map fK).filter (fun s=>aN s.pts y)=(yw l y).map fK:=by
 unfold yw;rw[List.filter_map];rfl
theorem Rt {a b:List Pc}(h:II a b):a.map fK=b.map fK:=by
 have:∀l:List Pc,l.map fK=(l.map oG).map (fun x=>(⟨x.2.2,⟨x.1.toArray⟩,⟨x.2.1.toArray⟩⟩:Pm)):=fun l=>by
  rw[List.map_map];rfl
 rw[this a,this b,show a.map oG=b.map oG from h]
theorem YK {a b:List Pc}{w:Nat}{y:Int}(h:II (yw a y) (yw b y)):nP aN (a.map fK) w y=nP aN (b.map fK) w y:=by
 unfold nP;rw[Pn,Pn,Rt h]
theorem YL (a b:List Pc)(h:Nat):(EJ a b h).Pairwise (·<·)/\∀y∈EJ a b h,y<h:=by
 refine⟨List.pairwise_lt_range.filter _,fun y hy=>?_⟩;unfold EJ at hy;exact List.mem_range.1 (List.mem_filter.1 hy).1
theorem a2m {a b:List Pc}{h y:Nat}:y∈EJ a b h↔y<h/\¬II (yw a y) (yw b y):=by
 unfold EJ II;simp[List.mem_filter]
theorem EK {α:Type}{a b:List α}{w h:Nat}(ha:a.length=w*h)(hb:b.length=w*h)(hr:∀y,y<h->(a.drop (w*y)).take w=(b.drop (w*y)).take w):a=b:=by
 induction h generalizing a b with
 |zero=>
  rw[Nat.mul_zero] at ha hb;rw[iC.1 ha,iC.1 hb]
 |succ h ih=>
  have h0:=hr 0 (by omega);rw[Nat.mul_zero,List.drop_zero,List.drop_zero] at h0;have h1:a.drop w=b.drop w:=by
   refine ih (by rw[List.length_drop,ha,Nat.mul_succ];omega) (by rw[List.length_drop,hb,Nat.mul_succ];omega) fun y hy=>?_;have:=hr (y+1) (by omega);rw[Nat.mul_succ] at this;rw[List.drop_drop,List.drop_drop,Nat.add_comm w];exact this
  rw[<- List.take_append_drop w a,h0,h1,List.take_append_drop]
theorem a2n {α:Type}{c row:List α}{w h y:Nat}(hc:c.length=w*h)(hr:row.length=w)(hy:y<h):(c.take (w*y)++row++c.drop (w*y+w)).length=w*h/\∀z,z<h->((c.take (w*y)++row++c.drop (w*y+w)).drop (w*z)).take w=if z=y then row else(c.drop (w*z)).take w:=by
 have h1:w*(y+1)<=w*h:=Nat.mul_le_mul_left w hy;rw[Nat.mul_succ] at h1;have hl:(c.take (w*y)).length=w*y:=by rw[List.length_take];omega
 refine⟨by rw[List.length_append,List.length_append,List.length_drop,hl,hr,hc];omega,fun z hz=>?_⟩;by_cases e:z=y
 ·subst e;rw[if_pos rfl,List.append_assoc,List.drop_append_of_le_length (by omega),List.drop_eq_nil_of_le (by omega),List.nil_append,List.take_append_of_le_length (by omega),List.take_of_length_le (by omega)]
 ·rw[if_neg e];have h2:w*(z+1)<=w*h:=Nat.mul_le_mul_left w hz;rw[Nat.mul_succ] at h2;by_cases hlt:z<y
  ·have h3:w*(z+1)<=w*y:=Nat.mul_le_mul_left w hlt;rw[Nat.mul_succ] at h3;rw[List.append_assoc,List.drop_append_of_le_length (by omega),List.take_append_of_le_length (by rw[List.length_drop];omega),List.drop_take,List.take_take,Nat.min_eq_left (by omega)]
  ·have h3:w*(y+1)<=w*z:=Nat.mul_le_mul_left w (by omega);rw[Nat.mul_succ] at h3;rw[List.drop_append,List.drop_eq_nil_of_le (by rw[List.length_append];omega),List.nil_append,List.length_append,hl,hr,List.drop_drop];congr 2;omega
theorem Gl {c:List aC}{b:List Pc}{w h:Nat}:∀(l:List Nat),c.length=w*h->(∀y∈l,y<h)->(Dk c b w l).length=w*h/\∀z,z<h->((Dk c b w l).drop (w*z)).take w=if z∈l then nP aN (b.map fK) w (z:Int) else(c.drop (w*z)).take w
 |[],hc,_=>⟨hc,fun z _=>by rw[if_neg (by simp)];rfl⟩
 |y::l,hc,hy=>by
  rw[Dk];obtain⟨p1,p2⟩:=a2n hc (qQ aN (b.map fK) w (y:Int)) (hy y (by simp));obtain⟨k1,k2⟩:=Gl l p1 (fun z hz=>hy z (by simp[hz]));refine⟨k1,fun z hz=>?_⟩;rw[k2 z hz,p2 z hz];by_cases h1:z∈l
  ·rw[if_pos h1,if_pos (by simp[h1])]
  ·rw[if_neg h1];by_cases h2:z=y
   ·subst h2;rw[if_pos rfl,if_pos (by simp)]
   ·rw[if_neg h2,if_neg (by simp[h1,h2])]
theorem YM (a b:List Pc)(w h:Nat):Dk (lW aN (a.map fK) w h) b w (EJ a b h)=lW aN (b.map fK) w h:=by
 obtain⟨k1,k2⟩:=Gl (b:=b) (EJ a b h) (jJ aN (a.map fK) w h) (YL a b h).2;refine EK k1 (jJ _ _ _ _) fun y hy=>?_;rw[k2 y hy];by_cases hm:y∈EJ a b h
 ·rw[if_pos hm,wm _ _ _ _ _ hy]
 ·rw[if_neg hm,wm _ _ _ _ _ hy,wm _ _ _ _ _ hy];rw[a2m] at hm;exact YK (Classical.byContradiction fun hn=>hm ⟨hy,hn⟩)
end
section
open Go.RowKit
def dI.p5 (x:dI):P5:=⟨x.nd,x.o,x.cap,⟨x.pts,⟨x.fill.toArray⟩,⟨x.rule.toArray⟩⟩,x.lv⟩
theorem Mg:∀l:List dI,cells5 (l.map dI.p5)=cellsS l
 |[]=>rfl
 |x::l=>by rw[List.map_cons,cells5,Mg l];rfl
theorem a4k (l:List dI):sP (l.map dI.p5)=(l.map dI.pc).map fK:=by
 rw[sP,List.map_map,List.map_map];rfl
structure wZ (w:ag)(base:Nat)(v:ah)(qs:List dI):Prop where
 own:w.ownsRow base 134 5 v qs.length (cellsS qs)
 pts:∀x∈qs,iM w base (Di x) x.pts
 rt:∀x∈qs,∀a∈x.pts,fT a=0
section
variable {w w':ag}{base:Nat}{v:ah}{qs:List dI}
theorem wZ.below (h:wZ w base v qs)(hb:Below w.heap.size w w'):wZ w' base v qs:=⟨aQ h.own hb,fun x hx=>(h.pts x hx).keep hb,h.rt⟩
theorem wZ.low (h:wZ w base v qs){b:Nat}(hb:b<=base):wZ w b v qs:=⟨eZ h.own hb,fun x hx=>(h.pts x hx).low hb,h.rt⟩
theorem a2o {a:Qt}(h:fT a=0):PI a:=by
 obtain⟨h1,h2⟩:=gF.1 h;rw[eO] at h1 h2;refine⟨⟨?_,?_⟩,⟨?_,?_⟩,⟨?_,?_⟩,⟨?_,?_⟩⟩<;>omega
theorem wZ.row (h:wZ w base v qs):∃o cap,v=.slice o (qs.map dI.p5).length cap/\zO w o cap (qs.map dI.p5)/\j5 w (qs.map dI.p5):=by
 obtain⟨o,cap,h1,h2, -,h4,h5⟩:=dL h.own;refine⟨o,cap,by rw[List.length_map];exact h1,⟨fun i x hx=>?_,by rw[List.length_map];exact h2,h4⟩,fun x hx=>?_⟩
 ·obtain⟨c0,c1,c2,c3,c4⟩:=uT _ i x hx;rw[Mg] at c0 c1 c2 c3 c4;obtain⟨g,hg,e0⟩:=dF h.own _ _ c0;have e:∀{j:Nat} {u:ah},(cellsS qs)[j]? =some u->w.cell? (ak g j)=some u:=fun{j u} hj=>by
   obtain⟨g',hg',e1⟩:=dF h.own j u hj;rw[hg] at hg';cases hg';exact e1
  exact⟨g,0,h5 g hg,by rw[Nat.zero_add];exact⟨e0,e c1,e c2,e c3,e c4⟩⟩
 ·obtain⟨y,hy,rfl⟩:=List.mem_map.1 hx;obtain⟨o',cap',h6,h7⟩:=(h.pts y hy).at_ (fun a ha=>a2o (h.rt y hy a ha));have h6:Value.slice y.o y.pts.length y.cap=.slice o' y.pts.length cap':=h6;cases h6;exact h7
end
end
end Go.Proofs.YtecneflbncjhpaaGreatDoor

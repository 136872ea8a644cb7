/- Parts of the proof. -/
import Derived.Test.YtjfiehbcamfdfaaGreatDoorQz25
namespace Go.Proofs.YtjfiehbcamfdfaaGreatDoor
section
def fK (p:Pc):Pm:=⟨p.pts,⟨p.fill.toArray⟩,⟨p.rule.toArray⟩⟩
def nC (p:Pc):Bs×Bs×List Qt:=(p.fill,p.rule,p.pts)
def xG (l:List Pc)(y:Int):List Pc:=l.filter fun p=>aI p.pts y
def Gv (a b:List Pc):Prop:=a.map nC=b.map nC
def jS (a b:List Pc)(h:Nat):List Nat:=(List.range h).filter fun(y:Nat)=> !decide ((xG a y).map nC=(xG b y).map nC)
def C8 (cells:List aD)(b:List Pc)(w:Nat):List Nat->List aD
 |[]=>cells
 |y::l=>C8 (cells.take (w*y)++mO aI (b.map fK) w (y:Int)++cells.drop (w*y+w)) b w l
theorem NI (l:List Pc)(y:Int):(l.map fK).filter (fun s=>aI s.pts y)=(xG l y).map fK:=by
 unfold xG;rw[List.filter_map];rfl
theorem Qf {a b:List Pc}(h:Gv a b):a.map fK=b.map fK:=by
 have:∀l:List Pc,l.map fK=(l.map nC).map (fun x=>(⟨x.2.2,⟨x.1.toArray⟩,⟨x.2.1.toArray⟩⟩:Pm)):=fun l=>by
  rw[List.map_map];rfl
 rw[this a,this b,show a.map nC=b.map nC from h]
theorem Xz {a b:List Pc}{w:Nat}{y:Int}(h:Gv (xG a y) (xG b y)):mO aI (a.map fK) w y=mO aI (b.map fK) w y:=by
 unfold mO;rw[NI,NI,Qf h]
theorem NJ (a b:List Pc)(h:Nat):(jS a b h).Pairwise (·<·)/\∀y∈jS a b h,y<h:=by
 refine⟨List.pairwise_lt_range.filter _,fun y hy=>?_⟩;unfold jS at hy;exact List.mem_range.1 (List.mem_filter.1 hy).1
theorem a0F {a b:List Pc}{h y:Nat}:y∈jS a b h↔y<h/\¬Gv (xG a y) (xG b y):=by
 unfold jS Gv;simp[List.mem_filter]
theorem XA (a:List Pc)(h:Nat):jS a a h=[]:=by
 unfold jS;rw[List.filter_eq_nil_iff];intro y _;simp
theorem Dv {α:Type}{a b:List α}{w h:Nat}(ha:a.length=w*h)(hb:b.length=w*h)(hr:∀y,y<h->(a.drop (w*y)).take w=(b.drop (w*y)).take w):a=b:=by
 induction h generalizing a b with
 |zero=>
  rw[Nat.mul_zero] at ha hb;rw[List.length_eq_zero_iff.1 ha,List.length_eq_zero_iff.1 hb]
 |succ h ih=>
  have h0:=hr 0 (by omega);rw[Nat.mul_zero,List.drop_zero,List.drop_zero] at h0;have h1:a.drop w=b.drop w:=by
   refine ih (by rw[List.length_drop,ha,Nat.mul_succ];omega) (by rw[List.length_drop,hb,Nat.mul_succ];omega) fun y hy=>?_;have:=hr (y+1) (by omega);rw[Nat.mul_succ] at this;rw[List.drop_drop,List.drop_drop,Nat.add_comm w];exact this
  rw[<- List.take_append_drop w a,h0,h1,List.take_append_drop]
theorem Qg {α:Type}{c row:List α}{w h y:Nat}(hc:c.length=w*h)(hr:row.length=w)(hy:y<h):(c.take (w*y)++row++c.drop (w*y+w)).length=w*h/\∀z,z<h->((c.take (w*y)++row++c.drop (w*y+w)).drop (w*z)).take w=if z=y then row else(c.drop (w*z)).take w:=by
 have h1:w*(y+1)<=w*h:=Nat.mul_le_mul_left w hy;rw[Nat.mul_succ] at h1;have hl:(c.take (w*y)).length=w*y:=by rw[List.length_take];omega
 refine⟨by rw[List.length_append,List.length_append,List.length_drop,hl,hr,hc];omega,fun z hz=>?_⟩;by_cases e:z=y
 ·subst e;rw[if_pos rfl,List.append_assoc,List.drop_append_of_le_length (by omega),List.drop_eq_nil_of_le (by omega),List.nil_append,List.take_append_of_le_length (by omega),List.take_of_length_le (by omega)]
 ·rw[if_neg e];have h2:w*(z+1)<=w*h:=Nat.mul_le_mul_left w hz;rw[Nat.mul_succ] at h2;by_cases hlt:z<y
  ·have h3:w*(z+1)<=w*y:=Nat.mul_le_mul_left w hlt;rw[Nat.mul_succ] at h3;rw[List.append_assoc,List.drop_append_of_le_length (by omega),List.take_append_of_le_length (by rw[List.length_drop];omega),List.drop_take,List.take_take,Nat.min_eq_left (by omega)]
  ·have h3:w*(y+1)<=w*z:=Nat.mul_le_mul_left w (by omega);rw[Nat.mul_succ] at h3;rw[List.drop_append,List.drop_eq_nil_of_le (by rw[List.length_append];omega),List.nil_append,List.length_append,hl,hr,List.drop_drop];congr 2;omega
theorem EW {c:List aD}{b:List Pc}{w h:Nat}:∀(l:List Nat),c.length=w*h->(∀y∈l,y<h)->(C8 c b w l).length=w*h/\∀z,z<h->((C8 c b w l).drop (w*z)).take w=if z∈l then mO aI (b.map fK) w (z:Int) else(c.drop (w*z)).take w
 |[],hc,_=>⟨hc,fun z _=>by rw[if_neg (by simp)];rfl⟩
 |y::l,hc,hy=>by
  rw[C8];obtain⟨p1,p2⟩:=Qg hc (mP aI (b.map fK) w (y:Int)) (hy y (by simp));obtain⟨k1,k2⟩:=EW l p1 (fun z hz=>hy z (by simp[hz]));refine⟨k1,fun z hz=>?_⟩;rw[k2 z hz,p2 z hz];by_cases h1:z∈l
  ·rw[if_pos h1,if_pos (by simp[h1])]
  ·rw[if_neg h1];by_cases h2:z=y
   ·subst h2;rw[if_pos rfl,if_pos (by simp)]
   ·rw[if_neg h2,if_neg (by simp[h1,h2])]
theorem XB (a b:List Pc)(w h:Nat):C8 (jD aI (a.map fK) w h) b w (jS a b h)=jD aI (b.map fK) w h:=by
 obtain⟨k1,k2⟩:=EW (b:=b) (jS a b h) (iJ aI (a.map fK) w h) (NJ a b h).2;refine Dv k1 (iJ _ _ _ _) fun y hy=>?_;rw[k2 y hy];by_cases hm:y∈jS a b h
 ·rw[if_pos hm,uP _ _ _ _ _ hy]
 ·rw[if_neg hm,uP _ _ _ _ _ hy,uP _ _ _ _ _ hy];rw[a0F] at hm;exact Xz (Classical.byContradiction fun hn=>hm ⟨hy,hn⟩)
end
section
open Go.RowKit
def dm.p5 (x:dm):P5:=⟨x.nd,x.o,x.cap,⟨x.pts,⟨x.fill.toArray⟩,⟨x.rule.toArray⟩⟩,x.lv⟩
theorem Kh:∀l:List dm,cells5 (l.map dm.p5)=cellsS l
 |[]=>rfl
 |x::l=>by rw[List.map_cons,cells5,Kh l];rfl
theorem a2f (l:List dm):sP (l.map dm.p5)=(l.map dm.pc).map fK:=by
 rw[sP,List.map_map,List.map_map];rfl
structure uw (w:ag)(base:Nat)(v:ah)(qs:List dm):Prop where
 own:w.ownsRow base 138 5 v qs.length (cellsS qs)
 pts:∀x∈qs,gU w base (BL x) x.pts
 rt:∀x∈qs,∀a∈x.pts,eY a=0
section
variable {w w':ag}{base:Nat}{v:ah}{qs:List dm}
theorem uw.below (h:uw w base v qs)(hb:Below w.heap.size w w'):uw w' base v qs:=⟨aP h.own hb,fun x hx=>(h.pts x hx).keep hb,h.rt⟩
theorem uw.low (h:uw w base v qs){b:Nat}(hb:b<=base):uw w b v qs:=⟨fH h.own hb,fun x hx=>(h.pts x hx).low hb,h.rt⟩
theorem a0G {a:Qt}(h:eY a=0):PI a:=by
 obtain⟨h1,h2⟩:=fE.1 h;rw[dJ] at h1 h2;refine⟨⟨?_,?_⟩,⟨?_,?_⟩,⟨?_,?_⟩,⟨?_,?_⟩⟩<;>omega
theorem uw.row (h:uw w base v qs):∃o cap,v=.slice o (qs.map dm.p5).length cap/\yN w o cap (qs.map dm.p5)/\iK w (qs.map dm.p5):=by
 obtain⟨o,cap,h1,h2, -,h4,h5⟩:=bS h.own;refine⟨o,cap,by rw[List.length_map];exact h1,⟨fun i x hx=>?_,by rw[List.length_map];exact h2,h4⟩,fun x hx=>?_⟩
 ·obtain⟨c0,c1,c2,c3,c4⟩:=tH _ i x hx;rw[Kh] at c0 c1 c2 c3 c4;obtain⟨g,hg,e0⟩:=bO h.own _ _ c0;have e:∀{j:Nat} {u:ah},(cellsS qs)[j]? =some u->w.cell? (ak g j)=some u:=fun{j u} hj=>by
   obtain⟨g',hg',e1⟩:=bO h.own j u hj;rw[hg] at hg';cases hg';exact e1
  exact⟨g,0,h5 g hg,by rw[Nat.zero_add];exact⟨e0,e c1,e c2,e c3,e c4⟩⟩
 ·obtain⟨y,hy,rfl⟩:=List.mem_map.1 hx;obtain⟨o',cap',h6,h7⟩:=(h.pts y hy).at_ (fun a ha=>a0G (h.rt y hy a ha));have h6:Value.slice y.o y.pts.length y.cap=.slice o' y.pts.length cap':=h6;cases h6;exact h7
end
end
end Go.Proofs.YtjfiehbcamfdfaaGreatDoor

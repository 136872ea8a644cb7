import Derived.Test.YtbkjmamcnflncaaGreatDoorQs35
namespace Go.Proofs.YtbkjmamcnflncaaGreatDoor
open Go.Proofs.Tryz
set_option maxHeartbeats 4000000
section
open Go.RowKit
def Va (a:dm)(i:Int)(v:au):dm:=λx=>if v.ownBlock=some x then some (.ats i) else a x
theorem bT.acg {B:Nat}{f:dm}{w w8:ah}{DB s:Nat}{p:Int->Option Nat}{M:Dm}{nx c k:Nat}{i:Int}{e:gP}{va vk v7:au}{L:List (Bs×Bs)}(h:bT B f w DB s p M nx c)(hi:M i=some e)(hp:p i=some k)(he:AB B f w i k e va vk)
  (hE:w8.heap[k]? =some (ai #[ak ⟨e.name.toArray⟩,v7,ag e.parent,vk] 147)) (u:w8.ownsRow B 145 2 v7 L.length (bG L)) (y:v7.ownBlock=va.ownBlock\/∀g,v7.ownBlock=some g->w.heap.size<=g)
  (z:w8.os=w.os) (d:w8.tape=w.tape) (A:w8.output=w.output) (v:w.heap.size<=w8.heap.size) (l:∀x,x<w.heap.size->x≠k->va.ownBlock≠some x->w8.heap[x]? =w.heap[x]?):
  bT B (Va f i v7) w8 DB s p (dY M i ⟨e.name,L,e.parent,e.kids⟩) nx c/\(∀x,x<w.heap.size->Va f i v7 x=f x)/\KT f w w8:=by
 have r:=aY he.cells;have C:va.ownBlock≠some k:=λb=>by have a:=he.nO k b;rw[he.tag] at a;cases a
 have m:∀x,x<w.heap.size->Va f i v7 x=f x:=λx n=>by
  unfold Va;split
  .rename_i a;rcases y with o|o
   .exact(he.nO x (o.symm.trans a)).symm
   .grind
  .rfl
 refine⟨h.put hi hp (va:=v7) (vk:=vk) ⟨hE,?_,u,?_,?_,?_⟩ v (h.wf i e hi) m ?_ ?_ ?_,m,⟨z,d,A,v,λx n q=>?_⟩⟩
 .rw[m k r];exact he.tag
 .intro g j;unfold Va;rw[if_pos j]
 .exact di he.kids λg j=>l g (he.kids.lt g j).2 (λb=>by have a:=he.jG g j;rw[b,he.tag] at a;cases a) (λb=>by have a:=he.jG g j;rw[he.nO g b] at a;cases a)
 .intro g j;rw[m g (he.kids.lt g j).2];exact he.jG g j
 .intro x t d;unfold Va at d;split at d
  .rename_i a;exact u.lt x a
  .have:=h.low x t d;omega
 .intro x n;unfold Va;split
  .grind
  .exact .inl (h.new n)
 .intro x t d a o D;exact l x (h.low x t d).2 (λb=>by rw[b,he.tag] at d;cases d;exact a rfl) (λb=>by rw[he.nO x b] at d;cases d;exact o rfl)
 .exact l x n (λb=>by rw[b,he.tag] at q;cases q) (λb=>by rw[he.nO x b] at q;cases q)
theorem Xe:∀(l:List (Bs×Bs)) (nm v:Bs),oM l nm=none->ru l nm v=l++[(nm,v)]
 |[],_,_,_=>rfl
 |a::l,nm,v,h=>by
  rw[wS] at h;rw[ru];by_cases b:(a.1==nm)=true
  .grind
  .rw[if_neg b] at h⊢;rw[Xe l nm v h];rfl
theorem Nj:∀(l:List (Bs×Bs)) (nm v:Bs) (k i:Nat),fI nm k l=((k+i:Nat):Int)->ru l nm v=l.set i (nm,v)/\F4 l nm=l.take i++l.drop (i+1)/\∃x,l[i]? =some x/\x.1=nm
 |[],nm,v,k,i,h=>by unfold fI at h;omega
 |a::l,nm,v,k,i,h=>by
  unfold fI at h;rw[ru,F4];by_cases b:(a.1==nm)=true
  .rw[if_pos b] at h⊢;rw[if_pos b];obtain rfl:i=0:=aa;grind
  .rw[if_neg b] at h⊢;rw[if_neg b];have d:1<=i:=by
    rcases xg l nm (k+1) with⟨c, -⟩|⟨j,x,c, -⟩<;>omega
   obtain⟨j,rfl⟩:∃j,i=j+1:=⟨i-1,aa⟩;obtain⟨c,e,x,f,g⟩:=Nj l nm v (k+1) j (by rw[h];congr 1;omega);grind
theorem Il:∀(l:List (Bs×Bs)) (i:Nat) (nm v:Bs),(∃x,l[i]? =some x/\x.1=nm)->(bG l).set (i*2+1) (ak ⟨v.toArray⟩)=bG (l.set i (nm,v))
 |[],_,_,_,⟨x,h,_⟩=>by simp at h
 |a::l,0,nm,v,⟨x,h,b⟩=>by
  simp at h;subst h b;rfl
 |a::l,i+1,nm,v,⟨x,h,b⟩=>by
  have:=Il l i nm v ⟨x,by simpa using h,b⟩;rw[show(i+1)*2+1=i*2+1+1+1 from by omega];simp only[bG,fV,gF,List.set_cons_succ,this]
set_option maxRecDepth 20000
def wN (M:Dm)(n:Int)(nm v:Bs):Except Nat Dm:=match M n with
 |none=>.error 5
 |some e=>if iF nm=false then .error 4 else if isVal v=false then .error 10 else if(oM e.ats nm).isSome=false/\12<=e.ats.length then .error 7 else .ok (tL M n e (ru e.ats nm v))
def JB (E:Nat->Addr)(B:Nat)(a:dm)(W:ah)(DB d:Nat)(p:Int->Option Nat)(nx c:Nat)(x:Except Nat Dm)(e:Ending)(w':ah):Prop:=match x with
 | .error k=>e=.returned (.iface 453 (.pointer (some (E k))))/\aD W w'
 | .ok f=>e=.returned .nilIface/\KT a W w'/\∃b,(∀x,x<W.heap.size->b x=a x)/\bT B b w' DB d p f nx c
theorem Im {w:ah}{B k n g a:Nat}{e:TypeId}{d:List au}(h:w.ownsRow B e k (.slice (some ⟨g,0,none⟩) n a) n d)(j:Nat)(v:au):(w.setCell ⟨g,j,none⟩ v).ownsRow B e k (.slice (some ⟨g,0,none⟩) n a) n (d.set j v):=by
 obtain⟨i,c⟩:=h;refine⟨by rw[List.length_set];exact i,?_⟩;rcases c with⟨c,_⟩|⟨t,f,b,l,m,o,p,q,r,s⟩
 .cases c
 .cases l;refine .inr ⟨g,a,b.setIfInBounds j v,rfl,m,heap_setCell_same w g j b e v o,p,q,by simpa using r,?_⟩;rw[<- s,Array.toList_setIfInBounds,List.take_set]
theorem Cj {w:ah}{B k n g a:Nat}{e:TypeId}{c:List au}(h:w.ownsRow B e k (.slice (some ⟨g,0,none⟩) n a) n c)(j:Nat):w.frozen? ⟨g,j,none⟩=false:=by
 rcases h.2 with⟨d,_⟩|⟨m,b,f,i,o,l, -⟩
 .cases d
 .cases i;exact bq l j
section
variable {E:Nat->Addr}{B:Nat}{s:dm}{W:ah}{DB z:Nat}{p:Int->Option Nat}{M:Dm}{nx c:Nat}
theorem a7S (hE:DE E W)(h:bT B s W DB z p M nx c)(hB:B<=W.heap.size)(n:Int)(O:dV n)(nm v:Bs)(b8:nm.length<=1000000)(b9:v.length<=1000000):
  aJ 144 #[aI DB,ag n,.string ⟨nm.toArray⟩,.string ⟨v.toArray⟩] W λe w'=>JB E B s W DB z p nx c (wN M n nm v) e w':=by
 have d0:=h.d0;have k4:=hE.c4;have k5:=hE.c5;have c0:=hE.c10;unfold wN;cases hm:M n with
 |none=>
  have t:=h.non n hm;simp only;go_enter func144,ntmps144;go_wp2_with(at_lookup;refine jW _ rfl _ _ 138 rfl underlying3 underlying138 (cO _) rfl h.map n rfl O t ?_);go_ret;exact⟨rfl,aQ _ _⟩
 |some e=>
  obtain⟨j,va,vk,t,d⟩:=h.els n e hm;have F:=jA ⟨nm.toArray⟩ (by show nm.length<=_;omega) W;have I:=D9 ⟨v.toArray⟩ (by show v.length<=_;omega) W;simp only at F I;simp only;cases R:iF nm with
  |false=>
   rw[R] at F;rw[if_pos rfl];go_enter func144,ntmps144;go_wp2_with(first|(at_lookup;refine dA _ rfl _ _ 138 rfl underlying3 underlying138 (cO _) rfl h.map n rfl O j t ?_)|(go_at_call 177;refine F.mono ?_;rintro f a ⟨rfl,rfl⟩));go_ret;exact⟨rfl,aQ _ _⟩
  |true=>
   rw[R] at F;rw[if_neg aG];cases S:isVal v with
   |false=>
    rw[S] at I;rw[if_pos rfl];go_enter func144,ntmps144;go_wp2_with(first|(at_lookup;refine dA _ rfl _ _ 138 rfl underlying3 underlying138 (cO _) rfl h.map n rfl O j t ?_)|(go_at_call 177;refine F.mono ?_;rintro f a ⟨rfl,rfl⟩)|(go_at_call 210;refine I.mono ?_;rintro f a ⟨rfl,rfl⟩));go_ret;exact⟨rfl,aQ _ _⟩
   |true=>
    rw[S] at I;rw[if_neg aG];have T:=vZ d nm;have b7:e.ats.length<=maxLen:=by
     obtain⟨o,c1, -,h2,h3, -⟩:=eT d.ats;omega
    rcases xg e.ats nm 0 with⟨U,w⟩|⟨i,x,U,J,w⟩
    .rw[U] at T;rw[w];obtain⟨A,m,PZ⟩:=bg d.ats;subst PZ;by_cases V:12<=e.ats.length
     .rw[if_pos ⟨rfl,V⟩];have X:(12:Int)<=(e.ats.length:Int):=aa;have Y:∀a,aD W a->a.cell? (aH j 1)=some (.slice A e.ats.length m)/\a.cell? (aH 6 0)=some (.iface 453 (.pointer (some (E 7)))):=λa b=>⟨(b.cell (aK d.c1)).trans d.c1,(b.cell (aK hE.c7)).trans hE.c7⟩;go_enter func144,ntmps144;go_wp2_with(first|(at_lookup;refine dA _ rfl _ _ 138 rfl underlying3 underlying138 (cO _) rfl h.map n rfl O j t ?_)|(go_at_call 177;refine F.mono ?_;rintro f a ⟨rfl,rfl⟩)|(go_at_call 210;refine I.mono ?_;rintro f a ⟨rfl,rfl⟩)|(go_at_call 211;refine T.mono ?_;rintro f a ⟨rfl,b⟩;obtain⟨q1,q7⟩:=Y a b));go_ret;exact⟨rfl,b⟩
     .rw[if_neg (λhh=>V hh.2)];have X:(e.ats.length:Int)<12:=aa;obtain⟨i0,hi,a5,a6,a7⟩:=info_parts zX;have Y:∀a,aD W a->a.cell? (aH j 1)=some (.slice A e.ats.length m):=λa b=>(b.cell (aK d.c1)).trans d.c1;have OW:∀a,aD W a->(a.alloc (.cells #[.string ⟨nm.toArray⟩,.string ⟨v.toArray⟩] 145)).ownsRow B 145 2 (.slice A e.ats.length m) e.ats.length (bG e.ats):=λa b=>ig (bD d.ats b) _;have Z:some j≠(Value.slice A e.ats.length m).ownBlock:=λf=>by have l:=d.nO j f.symm;rw[d.tag] at l;cases l
      have E7:∀a,aD W a->∀C,(a.alloc (.cells #[.string ⟨nm.toArray⟩,.string ⟨v.toArray⟩] 145)).grownBy C (Value.slice A e.ats.length m).ownBlock->C.heap[j]? =some (.cells #[.string ⟨e.name.toArray⟩,.slice A e.ats.length m,ag e.parent,vk] 147):=λa b C gr=>by
       have q:=aW b (dI a (.cells #[.string ⟨nm.toArray⟩,.string ⟨v.toArray⟩] 145));exact(gr.block j (dP (aY d.cells) q.size) Z).trans ((q.block j (aY d.cells)).trans d.cells)
      go_enter func144,ntmps144;go_upto_region 14 with(first|(at_lookup;refine dA _ rfl _ _ 138 rfl underlying3 underlying138 (cO _) rfl h.map n rfl O j t ?_)|(go_at_call 177;refine F.mono ?_;rintro f a ⟨rfl,rfl⟩)|(go_at_call 210;refine I.mono ?_;rintro f a ⟨rfl,rfl⟩)|(go_at_call 211;refine T.mono ?_;rintro f a ⟨rfl,b⟩;have q1:=Y a b;have E5:=OW a b;have H0:=dN a #[.string ⟨nm.toArray⟩,.string ⟨v.toArray⟩] 145;have c2:=b.size));go_wp2_with(at_builtin;(refine wpList_append_own_at _ rfl _ _ 47 rfl B 145 i0 (.agg #[.string ⟨#[]⟩,.string ⟨#[]⟩]) 2 32 underlying47 hi a5 a6 a7 rfl aC _ _ _ rfl E5 ⟨a.heap.size,0,none⟩ 1 1 [.string ⟨nm.toArray⟩,.string ⟨v.toArray⟩] rfl rfl (World.news_of_block H0) (λu hu=>by simp at hu;rcases hu with rfl|rfl<;>rfl) (by simp only[maxLen];omega) aa aX ?_;intro v7 C kz k _ r;obtain⟨P,Q,rfl⟩:=bg kz;have k:(a.alloc (.cells #[.string ⟨nm.toArray⟩,.string ⟨v.toArray⟩] 145)).grownBy C (Value.slice A e.ats.length m).ownBlock:=k;have r:(Value.slice P (e.ats.length+1) Q).ownBlock=(Value.slice A e.ats.length m).ownBlock\/(Value.slice P (e.ats.length+1) Q).ownBlock=some (a.alloc (.cells #[.string ⟨nm.toArray⟩,.string ⟨v.toArray⟩] 145)).heap.size:=r;clear k r;have e7:=E7 a b C k;have c3:=aO e7 1 _ rfl;have c4:=bq e7));go_ret;have q:=aW b (dI a (.cells #[.string ⟨nm.toArray⟩,.string ⟨v.toArray⟩] 145));have ZH:C.ownsRow B 145 2 (.slice P (e.ats.length+1) Q) (ru e.ats nm v).length (bG (ru e.ats nm v)):=by
       rw[Xe e.ats nm v w,Dc,dJ];exact kz
      have a8:(Value.slice P (e.ats.length+1) Q).ownBlock≠some j:=λf=>by
       rcases r with l|l
       .exact Z (f.symm.trans l)
       .rw[l] at f;have:=aY d.cells;have:=q.size;cases f;omega
      have K:=h.acg hm t d (w8:=C.setCell ⟨j,1,none⟩ (.slice P (e.ats.length+1) Q)) (v7:=.slice P (e.ats.length+1) Q) (L:=ru e.ats nm v) (by rw[heap_setCell_same C j 1 _ _ _ e7];rfl) (di ZH λg D=>bY _ _ _ g (λf=>a8 (by rw[D,f]))) (r.imp id λl g D=>by rw[l] at D;cases D;exact q.size) (k.os.trans q.os) (k.tape.trans q.tape) (k.output.trans q.output) (by rw[mO];exact bu q.size k.size) (λx hx l h2=>by rw[bY _ _ _ x l,k.block x (dP hx q.size) (λf=>h2 f.symm),q.block x hx]);exact⟨rfl,K.2.2,_,K.2.1,K.1⟩
    .rw[fZ] at U;rw[U] at T;rw[w,if_neg (λhh=>by simp at hh)];obtain⟨H, -,a9⟩:=Nj e.ats nm v 0 i (by rw[U,fZ]);obtain⟨c5, -⟩:=kQ.1 J;obtain⟨g,D, -⟩:=dO d.ats _ _ (mg J).2;obtain⟨A,m,PZ,c6,c8, -,h5⟩:=eT d.ats;have b0:=h5 g D;subst PZ b0;have c9:(i:Int)<(e.ats.length:Int):=aa;have d1:(e.ats.length:Int)<=(m:Int):=aa;have b3:g≠j:=λf=>by have l:=d.nO g D;rw[f,d.tag] at l;cases l
     have Y:∀a,aD W a->a.cell? (aH j 1)=some (.slice (some ⟨g,0,none⟩) e.ats.length m)/\a.cell? (aH g (i*2+1))=some (.string ⟨x.2.toArray⟩)/\a.frozen? ⟨g,i*2+1,none⟩=false:=λa b=>by
      obtain⟨g',a4,hc⟩:=dO (bD d.ats b) _ _ (mg J).2;rw[D] at a4;cases a4;exact⟨(b.cell (aK d.c1)).trans d.c1,hc,Cj (bD d.ats b) _⟩
     go_enter func144,ntmps144;go_wp2_with(first|(at_lookup;refine dA _ rfl _ _ 138 rfl underlying3 underlying138 (cO _) rfl h.map n rfl O j t ?_)|(go_at_call 177;refine F.mono ?_;rintro f a ⟨rfl,rfl⟩)|(go_at_call 210;refine I.mono ?_;rintro f a ⟨rfl,rfl⟩)|(go_at_call 211;refine T.mono ?_;rintro f a ⟨rfl,b⟩;obtain⟨q1,q2,q3⟩:=Y a b));go_ret;have ZH:=Im (bD d.ats b) (i*2+1) (.string ⟨v.toArray⟩);rw[Il e.ats i nm v a9,<- H] at ZH;have b4:e.ats.length=(ru e.ats nm v).length:=by rw[H,List.length_set]
     have b5:(a.setCell ⟨g,i*2+1,none⟩ (.string ⟨v.toArray⟩)).heap[j]? =some (.cells #[.string ⟨e.name.toArray⟩,.slice (some ⟨g,0,none⟩) e.ats.length m,ag e.parent,vk] 147):=(bY _ _ _ j (λf=>b3 f.symm)).trans ((b.block j (aY d.cells)).trans d.cells);have b6:=mO a ⟨g,i*2+1,none⟩ (.string ⟨v.toArray⟩);have N:=(aQ g a).setCell (p:=⟨g,i*2+1,none⟩) ay (.string ⟨v.toArray⟩);have K:=h.acg hm t d (L:=ru e.ats nm v) b5 (by rw[<- b4];exact ZH) (.inl rfl) (N.os.trans b.os) (N.tape.trans b.tape) (N.output.trans b.output) (by rw[b6];exact b.size) (λy hy l h2=>by rw[bY _ _ _ y (λf=>h2 (by rw[D,f])),b.block y hy]);exact⟨rfl,K.2.2,_,K.2.1,K.1⟩
end
section
variable {B k n g s:Nat}{e:TypeId}
theorem Lb:∀(vs:List au) (o:Nat) (w:ah) (a:List au),w.ownsRow B e k (aj (some ⟨g,0,none⟩) n s) n a->o+vs.length<=a.length->(w.setCells g o vs).ownsRow B e k (aj (some ⟨g,0,none⟩) n s) n (a.take o++vs++a.drop (o+vs.length))
 |[],o,w,a,h,_=>by simpa[World.setCells] using h
 |v::vs,o,w,a,h,c=>by
  simp only[eP] at c;have b:=Lb vs (o+1) (w.setCell ⟨g,o,none⟩ v) (a.set o v) (Im h o v) (by rw[List.length_set];omega);rw[dS,List.take_set_of_le ay,List.getElem?_set_self aa,List.drop_set_of_lt aa] at b;rw[eP,show o+(vs.length+1)=o+1+vs.length from by omega];simpa[World.setCells] using b
theorem a7U {w:ah}{b:List au}(h:w.ownsRow B e k (aj (some ⟨g,0,none⟩) n s) n b){m:Nat}(d:m<=n):w.ownsRow B e k (aj (some ⟨g,0,none⟩) m s) m (b.take (m*k)):=by
 have f:m*k<=n*k:=Nat.mul_le_mul_right k d;refine⟨by rw[iV,h.1];omega,?_⟩;rcases h.2 with⟨i,_⟩|⟨t,c,a,j,l,o,u,p,q,r⟩
 .cases i
 .cases j;exact .inr ⟨g,s,a,rfl,l,o,aa,p,q,by rw[<- r,List.take_take,Nat.min_eq_left f]⟩
theorem Rp {w:ah}{a:List au}(h:w.ownsRow B e k (aj (some ⟨g,0,none⟩) n s) n a):∀(vs:List au) (j:Nat),n*k<=j->(w.setCells g j vs).ownsRow B e k (aj (some ⟨g,0,none⟩) n s) n a
 |[],_,_=>h
 |v::vs,j,c=>by
  have b:=Im h j v;rw[List.set_eq_of_length_le (by rw[h.1];exact c)] at b;exact Rp b vs (j+1) aa
end
theorem qK (g:Nat):∀(vs:List au) (o:Nat) (w:ah) (x:Nat),x≠g->(w.setCells g o vs).heap[x]? =w.heap[x]?
 |[],_,_,_,_=>rfl
 |v::vs,o,w,x,a=>(qK g vs (o+1) (w.setCell ⟨g,o,none⟩ v) x a).trans (bY _ _ _ x a)
theorem setCells_size (g:Nat):∀(vs:List au) (o:Nat) (w:ah),(w.setCells g o vs).heap.size=w.heap.size
 |[],_,_=>rfl
 |v::vs,o,w=>(setCells_size g vs (o+1) (w.setCell ⟨g,o,none⟩ v)).trans (mO _ _ _)
theorem JC (w:ah)(e:TypeId)(b o c:Nat)(hc:∀j,j<2->(w.cell? (aH b (o+j))).isSome=true)(f:∀j,j<2->w.frozen? ⟨b,o+j,none⟩=false):
  (Builtin.clear_ #[47] e #[aj (some ⟨b,o,none⟩) 1 c]).run prog w=.ok (aF #[]) (w.setCells b o [ak ⟨#[]⟩,ak ⟨#[]⟩]):=by
 have d:∀w,(zeroValue 145).run prog w=.ok (.agg #[ak ⟨#[]⟩,ak ⟨#[]⟩]) w:=λw=>az;have g:Builtin.zeroCells (Value.agg #[ak ⟨#[]⟩,ak ⟨#[]⟩]).cells 1=#[ak ⟨#[]⟩,ak ⟨#[]⟩]:=az;have a:=run_storeCells_cells (P:=prog) b o [ak ⟨#[]⟩,ak ⟨#[]⟩] 0 w (by simpa using hc) (by simpa using f) (λv d=>by simp at d;rw[d];rfl);simp only[Nat.add_zero] at a;simp[Builtin.clear_,run_underlying underlying47,d,g,a]
theorem ZI (l:List (Bs×Bs))(i:Nat)(hi:i<l.length):((bG l).take (i*2)++bG (l.drop (i+1))++(bG l).drop (i*2+(bG (l.drop (i+1))).length)).take ((l.length-1)*2)=bG (l.take i++l.drop (i+1)):=by
 have a:bG l=bG (l.take i)++bG (l.drop i):=by rw[<- lF,jJ]
 have c:(bG (l.take i)).length=i*2:=by rw[ko,iV];omega
 have d:(bG (l.drop (i+1))).length=(l.length-(i+1))*2:=by rw[ko,kU]
 have b:(bG l).take (i*2)=bG (l.take i):=by rw[a,List.take_append_of_le_length aa,jg aa]
 rw[lF,b,List.take_append_of_le_length (by rw[dJ];omega),jg (by rw[dJ];omega)]
theorem a7V {B:Nat}(w:ah)(g d i f:Nat)(l:List (Bs×Bs))(h:w.ownsRow B 145 2 (aj (some ⟨g,0,none⟩) l.length d) l.length (bG l))(hi:i<l.length)(S:i+1=f):
  aJ 212 #[aj (some ⟨g,0,none⟩) l.length d,ag i,ag f] w λe w'=>e=ax (aj (some ⟨g,0,none⟩) (l.length-1) d)/\w'.ownsRow B 145 2 (aj (some ⟨g,0,none⟩) (l.length-1) d) (l.length-1) (bG (l.take i++l.drop (i+1)))/\w'.os=w.os/\w'.tape=w.tape/\w'.output=w.output/\w'.heap.size=w.heap.size/\∀x,x≠g->w'.heap[x]? =w.heap[x]? :=by
 obtain⟨W,H,X,I,Y⟩:=info_parts zX;obtain⟨o',c',J,T,hm, -, -⟩:=eT h;cases J;obtain⟨c,k⟩:∃c,c=bG (l.drop f):=⟨_,rfl⟩;have p:c.length=(l.length-f)*2:=by rw[k,ko,kU]
 have Z:=ko l;have K:∀j,j<l.length*2->∃u,(bG l)[j]? =some u/\w.cell? (aH g j)=some u:=λj hj=>by
  obtain⟨u,q⟩:∃u,(bG l)[j]? =some u:=⟨_,eZ aa⟩;obtain⟨g',v,s⟩:=dO h j u q;cases v;exact⟨u,q,s⟩
 have y:=Cj h;obtain⟨A,hA,z⟩:∃A:Addr,(if d=f then some (⟨g,0,none⟩:Addr) else some ⟨g,f*2,none⟩)=some A/\Hid (∀t u,c[t]? =some u->w.drew.cell? (A.add t)=some u):=by
  by_cases s:d=f
  .refine⟨⟨g,0,none⟩,by simp[s],λt u q=>?_⟩;have h0:c.length=0:=by rw[p];omega
   rw[lS.1 h0] at q;simp at q
  .refine⟨⟨g,f*2,none⟩,by simp[s],λt u q=>?_⟩;have ht:t<c.length:=(kQ.1 q).1;obtain⟨u',C,L⟩:=K (f*2+t) aa;have:u=u':=by
    have r:bG l=bG (l.take f)++bG (l.drop f):=by rw[<- lF,jJ]
    rw[r,qb (by rw[ko,iV];omega),ko,iV,Nat.min_eq_left aa,Nat.add_sub_cancel_left,<- k,q] at C;exact fF C
   subst this;have D:(⟨g,f*2,none⟩:Addr).add t=⟨g,f*2+t,none⟩:=by unfold Addr.add;split<;>simp_all
   rw[D];exact L
 have s1:=aA p;have s2:Hid (∀u∈c,u.oneCell'=true):=(by rw[k];exact Gc _:∀u∈c,u.oneCell'=true);have s3:Hid (∀t,t<c.length->(w.drew.cell? (aH g (0+i*2+t))).isSome=true/\w.drew.frozen? ⟨g,0+i*2+t,none⟩=false):=λt ht=>by
  rw[fZ];obtain⟨u, -,s⟩:=K (i*2+t) aa;exact⟨by show(w.cell? _).isSome=true;rw[s];rfl,y _⟩
 obtain⟨n,o⟩:∃n,n=w.drew.setCells g (0+i*2) c:=⟨_,rfl⟩;have hW:=aA o;have U:w.drew.ownsRow B 145 2 (aj (some ⟨g,0,none⟩) l.length d) l.length (bG l):=h;have E:n.ownsRow B 145 2 (aj (some ⟨g,0,none⟩) l.length d) l.length ((bG l).take (i*2)++c++(bG l).drop (i*2+c.length)):=by
  rw[o,fZ];exact Lb c (i*2) w.drew (bG l) U aa
 have M:=E.1;have a4:∀N,(Builtin.clear_ #[47] N #[aj (some ⟨g,(i+(l.length-f))*2,none⟩) (l.length-(i+(l.length-f))) (d-(i+(l.length-f)))]).run prog n=.ok (aF #[]) (n.setCells g ((i+(l.length-f))*2) [ak ⟨#[]⟩,ak ⟨#[]⟩]):=λN=>by
  rw[show l.length-(i+(l.length-f))=1 from by omega];refine JC n N g _ _ (λj hj=>?_) (λj _=>Cj E _);obtain⟨u,q⟩:∃u,((bG l).take (i*2)++c++(bG l).drop (i*2+c.length))[(i+(l.length-f))*2+j]? =some u:=⟨_,eZ aa⟩;obtain⟨g',v,s⟩:=dO E _ u q;cases v;rw[s];rfl
 have O:Hid ((n.setCells g ((i+(l.length-f))*2) [ak ⟨#[]⟩,ak ⟨#[]⟩]).ownsRow B 145 2 (aj (some ⟨g,0,none⟩) (l.length-1) d) (l.length-1) (bG (l.take i++l.drop (i+1)))/\n.heap.size=w.heap.size/\∀x,x≠g->n.heap[x]? =w.heap[x]?):=by
  subst S;refine⟨Rp ?_ _ _ aa,by rw[o,setCells_size];rfl,λx F=>by rw[o,qK g _ _ _ x F];rfl⟩;have r:=a7U E (m:=l.length-1) aa;rw[k,ZI l i hi] at r;exact r
 have P:Hid (n.os=w.os/\n.tape=w.tape/\n.output=w.output):=by
  have r:=iR (B:=0) (b:=g) (a:=w) (bf _) c (0+i*2) w.drew ((aQ 0 w).drew);rw[o];exact⟨r.os,r.tape,r.output⟩
 have a5:(i:Int)<=(f:Int):=aa;have a6:(f:Int)<=(l.length:Int):=aa;have a7:(l.length:Int)<=(d:Int):=aa;have a8:((i:Int)==(f:Int))=false:=dL.2 aa;have a9:f<=d:=aa;have b0:(i:Int)<=(d:Int):=aa;have V:¬d=i+(l.length-f):=aa;have Q:Hid (i+(l.length-f)=l.length-1):=(by omega:i+(l.length-f)=l.length-1);clear o E U K k p h M y S;go_enter func212,ntmps212;go_wp2_with fail
 go_region_law (refine step_append_room rfl (.tmp 22) (.tmp 25) 47 rfl 145 W 2 underlying47 H I g 0 i d (by simp[Act.eval,Act.put]) A (l.length-f) (d-f) c (by simp[Act.eval,Act.put]) s1.out z.out s2.out aa s3.out ?_;rw[<- hW.out])
 go_wp2_with fail;go_ret;obtain⟨k1,k2,k3⟩:=O.out;obtain⟨k4,k5,k6⟩:=P.out;have R:=iR (B:=0) (b:=g) (a:=n) (bf _) [ak ⟨#[]⟩,ak ⟨#[]⟩] ((i+(l.length-f))*2) n (aQ 0 n);exact⟨by have r:=Q.out;simp only[r];rfl,k1,R.os.trans k4,R.tape.trans k5,R.output.trans k6,by rw[setCells_size];exact k2,λx F=>(qK g _ _ _ x F).trans (k3 x F)⟩
def rG (M:Dm)(n:Int)(nm:Bs):Except Nat Dm:=match M n with
 |none=>.error 5
 |some e=>if(oM e.ats nm).isSome=false then .error 5 else .ok (tL M n e (F4 e.ats nm))
theorem ZJ {E:Nat->Addr}{B:Nat}{K:dm}{W:ah}{DB N:Nat}{p:Int->Option Nat}{M:Dm}{nx c:Nat}(hE:DE E W)(h:bT B K W DB N p M nx c)(n:Int)(O:dV n)(nm:Bs):
  aJ 145 #[aI DB,ag n,ak ⟨nm.toArray⟩] W λe w'=>JB E B K W DB N p nx c (rG M n nm) e w':=by
 have d0:=h.d0;have k5:=hE.c5;unfold rG;cases P:M n with
 |none=>
  have C:=h.non n P;simp only;go_enter func145,ntmps145;go_wp2_with(at_lookup;refine jW _ rfl _ _ 138 rfl underlying3 underlying138 (cO _) rfl h.map n rfl O C ?_);go_ret;exact⟨rfl,aQ _ _⟩
 |some e=>
  obtain⟨d,va,vk,C,f⟩:=h.els n e P;have D:=vZ f nm;simp only;have F:e.ats.length<=maxLen:=by
   obtain⟨o,a4, -,X,h3, -⟩:=eT f.ats;omega
  rcases xg e.ats nm 0 with⟨z,m⟩|⟨i,x,z,t,m⟩
  .rw[z] at D;rw[m,if_pos aC];have I:∀a,aD W a->a.cell? (aH 4 0)=some (aP 453 (.pointer (some (E 5)))):=λa b=>(b.cell (aK hE.c5)).trans hE.c5;go_enter func145,ntmps145;go_wp2_with(first|(at_lookup;refine dA _ rfl _ _ 138 rfl underlying3 underlying138 (cO _) rfl h.map n rfl O d C ?_)|(go_at_call 211;refine D.mono ?_;rintro q a ⟨rfl,b⟩;have q7:=I a b));go_ret;exact⟨rfl,b⟩
  .rw[fZ] at z;rw[z] at D;rw[m,if_neg (λhh=>by simp at hh)];obtain⟨-,k, -⟩:=Nj e.ats nm [] 0 i (by rw[z,fZ]);obtain⟨Q, -⟩:=kQ.1 t;obtain⟨g,Y, -⟩:=dO f.ats _ _ (mg t).2;obtain⟨ov,l,PZ,a5,a6, -,h5⟩:=eT f.ats;have R:=h5 g Y;subst PZ R;have H:g≠d:=λq=>by have J:=f.nO g Y;rw[q,f.tag] at J;cases J
   obtain⟨A,u⟩:∃A,i+1=A:=⟨_,rfl⟩;have a7:(i:Int)+1=(A:Int):=aa;have a8:(A:Int)<=9223372036854775807:=by rw[dh] at F;omega
   have I:∀a,aD W a->a.cell? (aH d 1)=some (aj (some ⟨g,0,none⟩) e.ats.length l):=λa b=>(b.cell (aK f.c1)).trans f.c1;have Z:∀a,aD W a->aJ 212 #[aj (some ⟨g,0,none⟩) e.ats.length l,ag i,ag A] a λS s=>S=ax (aj (some ⟨g,0,none⟩) (e.ats.length-1) l)/\s.cell? (aH d 1)=some (aj (some ⟨g,0,none⟩) e.ats.length l)/\s.frozen? ⟨d,1,none⟩=false/\Hid (JB E B K W DB N p nx c (.ok (tL M n e (F4 e.ats nm))) (ax aU) (s.setCell ⟨d,1,none⟩ (aj (some ⟨g,0,none⟩) (e.ats.length-1) l))):=λa b=>(a7V a g l i A e.ats (bD f.ats b) Q u).mono λS s ⟨r1,r2,r3,r4,r5,r6,r7⟩=>by
    have T:=(b.block d (aY f.cells)).trans f.cells;have v:=(r7 d (λq=>H q.symm)).trans T;refine⟨r1,aO v 1 _ rfl,bq v 1,?_⟩;have U:e.ats.length-1=(F4 e.ats nm).length:=by rw[k,dJ,iV,kU];omega
    rw[<- k] at r2;have V:=mO s ⟨d,1,none⟩ (aj (some ⟨g,0,none⟩) (e.ats.length-1) l);have w:=(aQ d s).setCell (p:=⟨d,1,none⟩) ay (aj (some ⟨g,0,none⟩) (e.ats.length-1) l);have r:=h.acg P C f (w8:=s.setCell ⟨d,1,none⟩ (aj (some ⟨g,0,none⟩) (e.ats.length-1) l)) (v7:=aj (some ⟨g,0,none⟩) (e.ats.length-1) l) (L:=F4 e.ats nm) (by rw[heap_setCell_same s d 1 _ _ _ v];rfl) (by rw[<- U];exact di r2 λj hj=>bY _ _ _ j (λq=>H (by cases hj;exact q))) (.inl rfl) (w.os.trans (r3.trans b.os)) (w.tape.trans (r4.trans b.tape)) (w.output.trans (r5.trans b.output)) (by rw[V,r6];exact b.size) (λy hy J X=>by rw[bY _ _ _ y J,r7 y (λq=>X (by rw[q];rfl)),b.block y hy]);exact⟨rfl,r.2.2,_,r.2.1,r.1⟩
   have a9:=aA u;clear u k t m z;go_enter func145,ntmps145;go_upto_region 7 with(first|(at_lookup;refine dA _ rfl _ _ 138 rfl underlying3 underlying138 (cO _) rfl h.map n rfl O d C ?_)|(go_at_call 211;refine D.mono ?_;rintro q a ⟨rfl,b⟩));have q1:=I a b;have D1:=Z a b;clear D Z I;go_wp2_with(go_at_call 212;refine D1.mono ?_;rintro S s ⟨rfl,q2,q3,H2⟩);go_ret;exact H2.out
end
section
open Go.RowKit
section
variable {E:Nat->Addr}{W:ah}{LB B:Nat}{s:dm}{DB z:Nat}{p:Int->Option Nat}{M:Dm}{nx c:Nat}{r:Int->Nat}{rl:List Rl}{D:au}{C:List fq}{pv:au}{w h:Nat}{F:au}
abbrev a7W (C:List fq)(w h:Nat):List aM:=ng bA ((C.map fq.pc).map gX) w h
theorem Rq (l:LvS W LB B s DB z p M nx c r rl D C pv w h F)(u:1<=w)(R:w<=40)(S:1<=h)(T:h<=40):
  aJ 49 #[aI LB] W λe w'=>∃g cp,e=ax (.agg #[ag w,ag h,aj (some ⟨g,0,none⟩) (w*h) cp])/\w'.ownsRow W.heap.size 9 1 (aj (some ⟨g,0,none⟩) (w*h) cp) (w*h) ((a7W C w h).map ak)/\aD W w':=by
 obtain⟨a,b,x⟩:=bg l.Xc;subst x;have y:=aO l.lb 3 _ rfl;have A:=aO l.lb 4 _ rfl;have E:=aO l.lb 5 _ rfl;have m:=dI W (ai #[ag 0,ag 0,aj none 0 0] 81);have H:=dN W #[ag 0,ag 0,aj none 0 0] 81;have I:=dI (W.alloc (ai #[ag 0,ag 0,aj none 0 0] 81)) (ai #[ag w,ag h,aj a (w*h) b] 81);have i:=dN (W.alloc (ai #[ag 0,ag 0,aj none 0 0] 81)) #[ag w,ag h,aj a (w*h) b] 81;rw[dK] at i;have J:=(m.cell (aK y)).trans y;have K:=(m.cell (aK A)).trans A;have L:=(m.cell (aK E)).trans E;have j:(a7W C w h).length=w*h:=lH _ _ _ _;have V:w*h<=1600:=Nat.mul_le_mul R T;go_enter func49,ntmps49;go_upto_region 2 with fail;have d:=(I.block _ (aY H)).trans H;have n:=aW m I;obtain⟨U,P⟩:∃U,(W.alloc (ai #[ag 0,ag 0,aj none 0 0] 81)).alloc (ai #[ag w,ag h,aj a (w*h) b] 81)=U:=⟨_,rfl⟩;rw[P] at i d n⊢;clear P;have q:=a3h U _ (a7W C w h) (by rw[j];exact bD l.Xc n) (by rw[j];omega);rw[j] at q;have q:=q.mono (R':=λe f=>∃g cp,e=ax (aj (some ⟨g,0,none⟩) (w*h) cp)/\oC f (W.heap.size+1) (ag w) (ag h) (aj a (w*h) b)/\oC f W.heap.size (ag 0) (ag 0) (aj none 0 0)/\Hid (f.ownsRow U.heap.size 9 1 (aj (some ⟨g,0,none⟩) (w*h) cp) (w*h) ((a7W C w h).map ak)/\aD U f/\f.heap[W.heap.size]? =some (ai #[ag 0,ag 0,aj none 0 0] 81))) λe f ⟨o,k,Q,N,O⟩=>by
   obtain⟨g,cp,X, -, -⟩:=N.form (Nat.mul_pos u S);rw[X] at Q N;have Y:=(O.block _ (aY i)).trans i;have t:=(O.block _ (aY d)).trans d;exact⟨g,cp,Q,oC.of Y,oC.of t,N,O,t⟩
 obtain⟨c0,c1,c2,f0,f1,f2⟩:=oC.of i;have Z:W.heap.size+1<U.heap.size:=aY i;clear y A E J K L i d H m I;go_wp2_with(go_at_call 91;refine q.mono ?_;rintro e f ⟨g,cp,rfl,⟨a4,a5,a6,a7,a8,a9⟩,⟨z0,z1,z2,y0,y1,y2⟩,H2⟩);obtain⟨ow,b2,t⟩:=H2.out;have r4:=MX (w:=f.setCell ⟨W.heap.size+1,2,none⟩ (aj (some ⟨g,0,none⟩) (w*h) cp)) ((bY _ _ _ W.heap.size aG).trans t) (ag w) (ag h) (aj (some ⟨g,0,none⟩) (w*h) cp);obtain⟨e0,e1,e2, -, -, -⟩:=oC.of r4;refine bodyPost_ret (v:=.agg #[ag w,ag h,aj (some ⟨g,0,none⟩) (w*h) cp]) (by simp[results,results49,go_sem,e0,e1,e2]) rfl ?_;refine⟨g,cp,rfl,?_,((((aW n b2).setCell aG _).setCell aG _).setCell aG _).setCell aG _⟩;exact fO (jD (jD (jD (jD ow aX _) aX _) aX _) aX _) n.size
end
def Rs:Bs:=[115,101,116]
def Ck:Bs:=[117,110,115,101,116]
section
variable {E:Nat->Addr}{N:Nat}{s:dm}{V:ah}{DB z:Nat}{p:Int->Option Nat}{M:Dm}{nx c:Nat}{r:Int->Nat}
theorem JB.act {x:Except Nat Dm}{e:Ending}{w':ah}(h:j5 N s V DB z p M nx c r)(d:JB E N s V DB z p nx c x e w')(q:∀a,x=.ok a->eG a/\∃i y l,M i=some y/\a=tL M i y l):
  Below N V w'/\(((∃k,x=.error k)/\∃t u,e=ax (aP t u))\/(e=ax aU/\∃v w a f g j,(x=.ok a/\f=nx/\g=c/\j=r)/\eG a/\j5 N v w' DB z w a f g j)):=by
 cases x with
 |error k=>exact⟨d.2.mono h.low,.inl ⟨⟨k,rfl⟩,_,_,d.1⟩⟩
 |ok a=>
  obtain⟨A,m,B,H,C⟩:=d;obtain⟨D,i,y,l,n,o⟩:=q a rfl;refine⟨m.below (λb t F=>(h.w.low b t F).1) h.low,.inr ⟨A,B,p,a,nx,c,r,⟨rfl,rfl,rfl,rfl⟩,D,C,?_,?_,h.le,bu h.low m.size⟩⟩
  .rw[o];exact h.d.ats n l
  .rw[o];exact h.n.ats n l
theorem Vb {n:Int}{nm v:Bs}(c:eG M):∀a,wN M n nm v=.ok a->eG a/\∃i y l,M i=some y/\a=tL M i y l:=λa h=>by
 unfold wN at h;cases b:M n with
 |none=>rw[b] at h;cases h
 |some e=>
  rw[b] at h;simp only at h;split at h
  .cases h
  .next d=>
   split at h
   .cases h
   .next f=>
    split at h
    .cases h
    .next g=>
     cases h;refine⟨c.set b (by simpa using d) (by simpa using f) ?_,n,e,_,b,rfl⟩;grind
theorem Rt {n:Int}{nm:Bs}(c:eG M):∀a,rG M n nm=.ok a->eG a/\∃i y l,M i=some y/\a=tL M i y l:=λa h=>by
 unfold rG at h;cases b:M n with
 |none=>rw[b] at h;cases h
 |some e=>
  rw[b] at h;simp only at h;split at h
  .cases h
  .cases h;exact⟨c.off b,n,e,_,b,rfl⟩
end
set_option maxRecDepth 20000
theorem eG.put {M:Dm}(h:eG M){i:Int}{e:gP}(he:a7w e):eG (dY M i e):=λj x a=>by
 unfold dY at a;split at a
 .grind
 .exact h j x a
theorem eG.cut {M:Dm}(h:eG M)(l:List Int):eG (su M l):=λj x a=>by
 unfold su at a;split at a
 .cases a
 .exact h j x a
theorem eG.out {M:Dm}(h:eG M){n:Int}{e o:gP}(a:M e.parent=some o):eG (pz M n e o):=h.put (h _ o a)
theorem eG.mov {M:Dm}(h:eG M){n a:Int}{k:Nat}{e o q:gP}(he:M n=some e)(b:M e.parent=some o)(c:pz M n e o a=some q):eG (YL M n a k e o q):=((h.out (n:=n) b).put (i:=n) (e:=⟨e.name,e.ats,a,e.kids⟩) (h n e he)).put (i:=a) (e:=⟨q.name,q.ats,q.parent,iE q.kids k n⟩) (h.out b a q c)
section
variable {E:Nat->Addr}{N:Nat}{s:dm}{W:ah}{DB z:Nat}{p:Int->Option Nat}{M:Dm}{nx c:Nat}{r:Int->Nat}
theorem a3E (hE:DE E W)(f:bT N s W DB z p M nx c)(d a:Int)(b:Bs)(g:dV d)(q:gP)(m:M d=some q)(n:q.kids.length<=1000000)(v:¬a<0)(o:¬(q.kids.length:Int)<a)(h:iF b=false)(t:b.length<=1000000):
  aJ 141 #[aI DB,ag d,ag a,ak ⟨b.toArray⟩] W λr w'=>r=ax (aF #[ag 0,eV (E 4)])/\aD W w':=by
 have x:=f.d0;have ck:=hE.c4;unfold eV;obtain⟨u,y,A,i,e⟩:=f.els d q m;obtain⟨B,C,rfl⟩:=bg e.kids;have D:=e.c3;have k:(q.kids.length:Int)<=1000000:=aa;have l:=λw=>jA ⟨b.toArray⟩ (by rw[ic];omega) w;have j:iF (⟨b.toArray⟩:aM).data.toList=false:=by simpa using h
 rw[j] at l;go_enter func141,ntmps141;go_upto_region 7 with(first|(at_lookup;refine dA _ rfl _ _ 138 rfl underlying3 underlying138 (cO _) rfl f.map d rfl g u i ?_)|(go_at_call 177;refine(l _).mono ?_;rintro r F ⟨rfl,rfl⟩));go_region;go_wp2_with fail
 go_ret2
 exact⟨rfl,rfl,rfl,rfl,Nat.le_refl _,λ_ _=>rfl⟩
end
def Cm:Bs:=[97,100,100]
def xE:Bs:=[114,101,109,111,118,101]
section
variable {E:Nat->Addr}{N:Nat}{s:dm}{V:ah}{DB z:Nat}{p:Int->Option Nat}{M:Dm}{nx c:Nat}{r:Int->Nat}
end
end
open Go.RowKit
theorem Up.same {M:Dm}:∀{d b:Nat} {i:Int},Up M i d->Up M i b->d=b
 |0,0,_,_,_=>rfl
 |0,_+1,_,h,h'=>by
  unfold Up at h h';grind
 |_+1,0,_,h,h'=>by
  unfold Up at h h';grind
 |d+1,b+1,_,h,h'=>by
  unfold Up at h h';obtain⟨e,c,f⟩:=h;obtain⟨j,a,g⟩:=h';rw[c] at a;cases a;exact congrArg Nat.succ (Up.same f g)
def ApF (E:Nat->Addr)(x:Ed)(M:Dm)(nx c k:Nat)(f:Dm)(g h:Nat):Prop:=∀N i V a b p r,LE E V->j5 N i V a b p M nx c r->aJ 84 #[aI a,.agg (rO x)] V λe d=>Below N V d/\((k≠0/\e=ax (eV (E k)))\/(k=0/\e=ax aU/\∃j l m,j5 N j d a b l f g h m))
def ApX (E:Nat->Addr)(x:Ed)(M:Dm)(nx c:Nat):Prop:=∃k a b d,k<=10/\b<=nx+1/\eG a/\ApF E x M nx c k a b d
section
variable {E:Nat->Addr}{N:Nat}{s:dm}{V:ah}{DB z:Nat}{p:Int->Option Nat}{M:Dm}{nx c:Nat}{r:Int->Nat}
end
section
variable {E:Nat->Addr}{M:Dm}{nx c:Nat}
end
set_option maxRecDepth 20000
def ApC (DB:Nat)(V:ah)(n m ea:Int)(nm v:Bs)(Q:au->ah->Prop)(b:Bs):Prop:=
 (b=Rs/\aJ 144 #[aI DB,ag n,ak ⟨nm.toArray⟩,ak ⟨v.toArray⟩] V λe a=>∃u,e=ax u/\Q u a)\/
 (b=xE/\aJ 142 #[aI DB,ag n] V λe a=>∃u,e=ax u/\Q u a)\/
 (b=Cm/\aJ 141 #[aI DB,ag n,ag ea,ak ⟨nm.toArray⟩] V λe a=>∃y u,e=ax (aF #[y,u])/\Q u a)\/
 (b=Ck/\aJ 145 #[aI DB,ag n,ak ⟨nm.toArray⟩] V λe a=>∃u,e=ax u/\Q u a)\/
 (b=qV/\aJ 143 #[aI DB,ag n,ag m,ag ea] V λe a=>∃u,e=ax u/\Q u a)
variable {E:Nat->Addr}{V:ah}{DB:Nat}{M s:Dm}{nx c k C z:Nat}{D nm v:Bs}{n m ea:Int}
theorem a7X (Q:au->ah->Prop)(h:ApC DB (V.alloc (ai (rO ⟨D,n,m,ea,nm,v⟩) 94)) n m ea nm v Q D):
  aJ 84 #[aI DB,.agg (rO ⟨D,n,m,ea,nm,v⟩)] V λe w'=>∃u,e=ax u/\Q u w':=by
 obtain⟨c,d,z,f,g,i⟩:=EdC.of (dN V (rO ⟨D,n,m,ea,nm,v⟩) 94);rcases h with⟨rfl,h⟩|⟨rfl,h⟩|⟨rfl,h⟩|⟨rfl,h⟩|⟨rfl,h⟩
 all_goals
  first|unfold Rs at* |unfold xE at* |unfold Cm at* |unfold Ck at* |unfold qV at*
  go_enter func84,ntmps84;go_wp2_with(first|(go_at_call 144;refine h.mono ?_;rintro e b ⟨u,rfl,a⟩)|(go_at_call 142;refine h.mono ?_;rintro e b ⟨u,rfl,a⟩)|(go_at_call 141;refine h.mono ?_;rintro e b ⟨y,u,rfl,a⟩)|(go_at_call 145;refine h.mono ?_;rintro e b ⟨u,rfl,a⟩)|(go_at_call 143;refine h.mono ?_;rintro e b ⟨u,rfl,a⟩));go_ret;exact⟨u,rfl,a⟩
def agz (E:Nat->Addr)(N DB a k:Nat)(s:Dm)(C z:Nat)(V:ah)(u:au)(w':ah):Prop:=Below N V w'/\((k≠0/\u=eV (E k))\/(k=0/\u=aU/\∃b c d,j5 N b w' DB a c s C z d))
theorem Dx (H:∀N f V DB d p r,DE E V->j5 N f V DB d p M nx c r->ApC DB V n m ea nm v (agz E N DB d k s C z V) D):ApF E ⟨D,n,m,ea,nm,v⟩ M nx c k s C z:=λN f V DB d p r hE h=>by
 have g:=dI V (ai (rO ⟨D,n,m,ea,nm,v⟩) 94);exact(a7X _ (H N f _ DB d p r (hE.below g).de (h.below g))).mono λe o ⟨u,i,j,l⟩=>⟨(g.mono h.low).trans j,l.imp (λ⟨a,b⟩=>⟨a,by rw[i,b]⟩) (λ⟨a,b,c⟩=>⟨a,by rw[i,b],c⟩)⟩
def erN:Except Nat Dm->Nat
 | .error k=>k
 | .ok _=>0
def okD (M:Dm):Except Nat Dm->Dm
 | .error _=>M
 | .ok s=>s
theorem JB.ap {N b:Nat}{f:dm}{p:Int->Option Nat}{r:Int->Nat}{x:Except Nat Dm}{e:Ending}{w':ah}(h:j5 N f V DB b p M nx c r)(d:JB E N f V DB b p nx c x e w')(g:∀k,x=.error k->k≠0)(j:∀s,x=.ok s->eG s/\∃i y l,M i=some y/\s=tL M i y l):
  ∃u,e=ax u/\agz E N DB b (erN x) (okD M x) nx c V u w':=by
 cases x with
 |error k=>exact⟨_,d.1,d.2.mono h.low,.inl ⟨g k rfl,rfl⟩⟩
 |ok s=>
  obtain⟨m,a⟩:=JB.act h d j;rcases a with⟨⟨k,a⟩, -⟩|⟨a,n,o,v,C,z,w,⟨q,rfl,rfl,rfl⟩, -,t⟩
  .cases a
  .cases q;exact⟨_,a,m,.inr ⟨rfl,rfl,n,o,_,t⟩⟩
theorem Ru {j:Nat}(h:wN M n nm v=.error j):j≠0/\j<=10:=by
 unfold wN at h;grind
theorem Io {j:Nat}(h:rG M n nm=.error j):j≠0/\j<=10:=by
 unfold rG at h;grind
theorem Xf (d:eG M)(e:dV n)(a:nm.length<=1000000)(b:v.length<=1000000):ApF E ⟨Rs,n,m,ea,nm,v⟩ M nx c (erN (wN M n nm v)) (okD M (wN M n nm v)) nx c:=
 Dx λ_ _ _ _ _ _ _ hE h=>.inl ⟨rfl,(a7S hE h.w h.low n e nm v a b).mono λ_ _ f=>JB.ap h f (λ_ g=>(Ru g).1) (Vb d)⟩
theorem ZK (a:eG M)(b:dV n):ApF E ⟨Ck,n,m,ea,nm,v⟩ M nx c (erN (rG M n nm)) (okD M (rG M n nm)) nx c:=
 Dx λ_ _ _ _ _ _ _ hE h=>.inr (.inr (.inr (.inl ⟨rfl,(ZJ hE h.w n b nm).mono λ_ _ d=>JB.ap h d (λ_ e=>(Io e).1) (Rt a)⟩)))
theorem Xg (b:eG M)(f:dV n)(d:nm.length<=1000000)(e:v.length<=1000000):ApX E ⟨Rs,n,m,ea,nm,v⟩ M nx c/\ApX E ⟨Ck,n,m,ea,nm,v⟩ M nx c:=by
 refine⟨⟨_,_,nx,c,?_,Nat.le_succ _,?_,Xf b f d e⟩,⟨_,_,nx,c,?_,Nat.le_succ _,?_,ZK b f⟩⟩
 .cases a:wN M n nm v with
  |error j=>exact(Ru a).2
  |ok s=>exact bf _
 .cases a:wN M n nm v with
  |error j=>exact b
  |ok s=>exact(Vb b s a).1
 .cases a:rG M n nm with
  |error j=>exact(Io a).2
  |ok s=>exact bf _
 .cases a:rG M n nm with
  |error j=>exact b
  |ok s=>exact(Rt b s a).1
theorem Vd (I:eG M)(K:dV n):ApX E ⟨xE,n,m,ea,nm,v⟩ M nx c:=by
 have z:∀k,k≠0->k<=10->(∀N g V DB i p r,DE E V->j5 N g V DB i p M nx c r->aJ 142 #[aI DB,ag n] V λe A=>e=ax (eV (E k))/\A=V)->ApX E ⟨xE,n,m,ea,nm,v⟩ M nx c:=λk f w L=>
  ⟨k,M,nx,c,w,Nat.le_succ _,I,Dx λN g V DB i p r hE h=>.inr (.inl ⟨rfl,(L N g V DB i p r hE h).mono λe A ⟨O,P⟩=>⟨_,O,by rw[P];exact aQ _ _,.inl ⟨f,rfl⟩⟩⟩)⟩
 cases a:M n with
 |none=>exact z 5 aC aC λN g V DB i p r hE h=>YP hE h.w n K a
 |some e=>
  by_cases f:n=0
  .exact z 3 aC aC λN g V DB i p r hE h=>by
    subst f;exact Qh hE h.w e a
  cases q:M e.parent with
  |none=>
   refine z 3 aC aC λN g V DB i p r hE h=>?_;obtain⟨o,j, -⟩:=h.d.up n e a f;grind
  |some o=>
   refine⟨0,su (pz M n e o) (dM M 11 n),nx,c-(dM M 11 n).length,aC,Nat.le_succ _,(I.out q).cut _,Dx λN g V DB i p r hE h=>.inr (.inl ⟨rfl,?_⟩)⟩;obtain⟨X,j,B,_⟩:=h.d.up n e a f;rw[q] at j;cases j;have l:=h.d.dp 11 n e a aa;have s:=h.d.a2x (o:=o) (d:=1) a f l;have C:dM (pz M n e o) 11 n=dM M 11 n:=by unfold dM;rw[s]
   have D:∀x,x∈dM M 11 n↔Bl M n x:=λx=>h.d.mem l;have u:(dM M 11 n).Nodup:=h.d.rQ 11 n 1;have J:=h.d.cutV a q D;have F:=J.count h.n u D;have Q:=h.le;refine(Ua h.w n e o a f q (List.ne_nil_of_mem B) 11 aa (dM M 11 n) (h.d.a6S a q l) C (λk y=>?_) u aa).mono ?_
   .obtain⟨x,R⟩:=((D k).1 y).in_;obtain⟨S,w,_⟩:=h.d.Ez a q R;have w:dY M e.parent ⟨o.name,o.ats,o.parent,woL o.kids n⟩ k=some S:=w;grind
   .rintro Y A ⟨rfl,y,T,U,Z,W⟩;exact⟨_,rfl,y.below (λb t H=>(h.w.low b t H).1) h.low,.inr ⟨rfl,rfl,T,U,r,W,h.d.cut J (h.d.top f),F.1,aa,bu h.low y.size⟩⟩
theorem Ip (g:nx<1000000)(a:Nat)(i:iF nm=true){q:gP}(f:M n=some q)(u:a<=q.kids.length)(B:¬∃d,10<=d/\Up M n d)(hc:¬100<=c):ApF E ⟨Cm,n,m,a,nm,v⟩ M nx c 0 (dY (dY M nx ⟨nm,[],n,[]⟩) n ⟨q.name,q.ats,q.parent,iE q.kids a nx⟩) (nx+1) (c+1):=Dx λN C V DB D p r hE h=>by
 have w:=h.few f;have x:=h.d.deep _ n q rfl f;have y:=h.d.rb n q f;have j:r n<10:=by grind
 refine .inr (.inr (.inl ⟨rfl,(a6K h.w n a nm q f u i (r n) x j aa g aa h.low).mono ?_⟩));rintro e F ⟨rfl,o,z,A,H,k⟩;have s:=h.d.ajU h.new aa f nm a;exact⟨_,_,rfl,o.below (λb t l=>(h.w.low b t l).1) h.low,.inr ⟨rfl,rfl,z,A,_,k,h.d.add s f aa,s.count h.n,aa,bu h.low o.size⟩⟩
theorem Ve (c:eG M)(b:iF nm=true){q:gP}(d:M n=some q)(a:Nat):eG (dY (dY M nx ⟨nm,[],n,[]⟩) n ⟨q.name,q.ats,q.parent,iE q.kids a nx⟩):=
 (c.put (i:=(nx:Int)) (e:=⟨nm,[],n,[]⟩) ⟨b,aG,aG,aG⟩).put (i:=n) (e:=⟨q.name,q.ats,q.parent,iE q.kids a nx⟩) (c n q d)
theorem a7Y (u:nx<1000000)(l:dV n)(w:nm.length<=1000000):(∃k,1<=k/\k<=10/\ApF E ⟨Cm,n,m,ea,nm,v⟩ M nx c k M nx c)\/∃(a:Nat) (q:gP),ea=a/\M n=some q/\a<=q.kids.length/\iF nm=true/\ApF E ⟨Cm,n,m,ea,nm,v⟩ M nx c 0 (dY (dY M nx ⟨nm,[],n,[]⟩) n ⟨q.name,q.ats,q.parent,iE q.kids a nx⟩) (nx+1) (c+1):=by
 have o:∀k,k≠0->k<=10->(∀N f V DB g p r,DE E V->j5 N f V DB g p M nx c r->aJ 141 #[aI DB,ag n,ag ea,ak ⟨nm.toArray⟩] V λe B=>e=ax (aF #[ag 0,eV (E k)])/\aD V B)->∃k,1<=k/\k<=10/\ApF E ⟨Cm,n,m,ea,nm,v⟩ M nx c k M nx c:=λk D x F=>
  ⟨k,aa,x,Dx λN f V DB g p r hE h=>.inr (.inr (.inl ⟨rfl,(F N f V DB g p r hE h).mono λe B ⟨H,I⟩=>⟨_,_,H,I.mono h.low,.inl ⟨D,rfl⟩⟩⟩))⟩
 cases b:M n with
 |none=>exact .inl (o 5 aC aC λN f V DB g p r hE h=>ab1 hE h.w n ea nm l b)
 |some q=>
  by_cases s:ea<0
  .exact .inl (o 2 aC aC λN f V DB g p r hE h=>a6M hE h.w n ea nm l q b (by have:=h.few b;omega) s)
  by_cases i:(q.kids.length:Int)<ea
  .exact .inl (o 2 aC aC λN f V DB g p r hE h=>YO hE h.w n ea nm l q b (by have:=h.few b;omega) s i)
  cases j:iF nm with
  |false=>exact .inl (o 4 aC aC λN f V DB g p r hE h=>a3E hE h.w n ea nm l q b (by have:=h.few b;omega) s i j w)
  |true=>
   by_cases y:∃d,10<=d/\Up M n d
   .obtain⟨d,J,z⟩:=y;exact .inl (o 8 aC aC λN f V DB g p r hE h=>by
     have A:=h.few b;have t:=h.d.deep _ n q rfl b;have K:=h.d.rb n q b;have:=Up.same z t;exact a2n hE h.w n ea nm l q b aa s i j (r n) t aa aa)
   by_cases C:100<=c
   .exact .inl (o 7 aC aC λN f V DB g p r hE h=>by
     have A:=h.few b;have t:=h.d.deep _ n q rfl b;have K:=h.d.rb n q b;exact a2o hE h.w n ea nm l q b aa s i j (r n) t aa (Nat.lt_of_not_le λx=>y ⟨_,x,t⟩) C)
   obtain⟨a,rfl⟩:∃a:Nat,ea=a:=⟨ea.toNat,aa⟩;exact .inr ⟨a,q,rfl,rfl,aa,rfl,Ip u a j b aa y C⟩
theorem a3F (hM:eG M)(C:dV n)(D:dV m):ApX E ⟨qV,n,m,ea,nm,v⟩ M nx c:=by
 have B:∀k,k≠0->k<=10->(∀N u V DB w p r,DE E V->j5 N u V DB w p M nx c r->aJ 143 #[aI DB,ag n,ag m,ag ea] V λe R=>e=ax (eV (E k))/\aD V R)->ApX E ⟨qV,n,m,ea,nm,v⟩ M nx c:=λk z h1 HC=>
  ⟨k,M,nx,c,h1,Nat.le_succ _,hM,Dx λN u V DB w p r hE h=>.inr (.inr (.inr (.inr ⟨rfl,(HC N u V DB w p r hE h).mono λe R ⟨g1,g2⟩=>⟨_,g1,g2.mono h.low,.inl ⟨z,rfl⟩⟩⟩)))⟩
 cases j:M n with
 |none=>
  cases A:M m with
  |none=>exact B 5 aC aC λN u V DB w p r hE h=>a6L hE h.w n m ea C D j A
  |some q=>exact B 5 aC aC λN u V DB w p r hE h=>a2k hE h.w n m ea C D q j A
 |some x=>
  cases g:M m with
  |none=>exact B 5 aC aC λN u V DB w p r hE h=>a2l hE h.w n m ea C D x j g
  |some s=>
   by_cases z:n=0
   .exact B 3 aC aC λN u V DB w p r hE h=>YM hE h.w n m ea C D x s j g z
   by_cases l:m∈dM M 11 n
   .exact B 9 aC aC λN u V DB w p r hE h=>by
     have i:=h.d.dp 11 n x j aa;exact Ue hE h.w n m ea x s j g z C D 11 aa i (by have:=h.count (d:=1) i;omega) l
   by_cases S:ea<0
   .exact B 2 aC aC λN u V DB w p r hE h=>by
     have i:=h.d.dp 11 n x j aa;exact a2m hE h.w n m ea x s j g z C D 11 aa i (by have:=h.count (d:=1) i;omega) l S
   by_cases I:(if x.parent=m then(s.kids.length:Int)-1 else s.kids.length)<ea
   .exact B 2 aC aC λN u V DB w p r hE h=>by
     have i:=h.d.dp 11 n x j aa;exact Uf hE h.w n m ea x s j g z C D 11 aa i (by have:=h.count (d:=1) i;omega) l S (by have:=h.few g;omega) I
   by_cases T:∃d,Up M m d/\10<(d:Int)+nC (pre M 11 n 1)
   .obtain⟨d,J,U⟩:=T;exact B 8 aC aC λN u V DB w p r hE h=>by
     have i:=h.d.dp 11 n x j aa;have W:=h.d.deep _ m s rfl g;have K:=h.d.rb m s g;have L:=h.d.most (n:=n) (f:=11);have:=Up.same J W;exact YN hE h.w n m ea x s j g z C D 11 aa i (by have:=h.count (d:=1) i;omega) l S (by have:=h.few g;omega) I d J aa U aa
   obtain⟨a,rfl⟩:∃a:Nat,ea=a:=⟨ea.toNat,aa⟩;cases O:M x.parent with
   |none=>
    refine B 3 aC aC λN u V DB w p r hE h=>?_;obtain⟨o,F, -⟩:=h.d.up n x j z;grind
   |some o=>
    cases A:pz M n x o m with
    |none=>
     unfold pz dY at A;grind
    |some q=>
     refine⟨0,YL M n m a x o q,nx,c,aC,Nat.le_succ _,hM.mov j O A,Dx λN u V DB w p r hE h=>.inr (.inr (.inr (.inr ⟨rfl,?_⟩)))⟩;obtain⟨o',F,P,_⟩:=h.d.up n x j z;rw[O] at F;cases F;have i:=h.d.dp 11 n x j aa;have hl:=h.count (d:=1) i;have X:∀y,y∈dM M 11 n↔Bl M n y:=λy=>h.d.mem i;have a4:=h.few g;have W:=h.d.deep _ m s rfl g;have K:=h.d.rb m s g;have L:=h.d.most (n:=n) (f:=11);have Q:m≠n:=λe1=>l ((X m).2 (by rw[e1];exact .self j));have H:=h.d.Qp j z;have a5:¬10<(r m:Int)+nC (pre M 11 n 1):=by grind
     have a6:(q.kids.length:Int)=if x.parent=m then(s.kids.length:Int)-1 else s.kids.length:=by
      unfold pz dY at A;by_cases he:m=x.parent
      .rw[if_pos he] at A;cases A;rw[if_pos he.symm];have h1:=a6R P (h.d.nodup _ o O);grind
      .grind
     have Y:a<=q.kids.length:=aa;have Z:q.kids.length<=1000000:=aa;refine(a2j h.w n m a x o s q j z O (List.ne_nil_of_mem P) H g A Q 11 aa i aa l aa aa Y Z (r m) W aa L.1 h.low).mono ?_;rintro e R ⟨rfl,hk,mG,ht,hd⟩;have hv:=h.d.ajV j z O g A Q a;exact⟨_,rfl,hk.below (λb t K=>(h.w.low b t K).1) h.low,.inr ⟨rfl,rfl,mG,p,_,hd,h.d.move hv j z g (λK=>l ((X m).2 K)) X (h.d.fits aa),hv.count h.n,h.le,bu h.low hk.size⟩⟩

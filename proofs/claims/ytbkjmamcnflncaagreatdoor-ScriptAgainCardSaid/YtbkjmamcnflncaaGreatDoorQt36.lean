import Derived.Test.YtbkjmamcnflncaaGreatDoorQt35
namespace Go.Proofs.YtbkjmamcnflncaaGreatDoor
open Go.Proofs.Tryz
set_option maxHeartbeats 4000000
section
open Go.RowKit
def VM (a:dG)(i:Int)(v:ax):dG:=λx=>if v.ownBlock=some x then some (.ats i) else a x
theorem dm.ad5 {B:Nat}{f:dG}{w w8:ai}{DB s:Nat}{p:Int->Option Nat}{M:Dm}{nx c k:Nat}{i:Int}{e:ig}{va vk v7:ax}{L:List (Bs×Bs)}(h:dm B f w DB s p M nx c)(hi:M i=some e)(hp:p i=some k)(he:BK B f w i k e va vk)
  (hE:w8.heap[k]? =some (ak #[au ⟨e.name.toArray⟩,v7,ag e.parent,vk] 147)) (u:w8.ownsRow B 145 2 v7 L.length (bZ L)) (y:v7.ownBlock=va.ownBlock\/∀g,v7.ownBlock=some g->w.heap.size<=g)
  (z:w8.os=w.os) (d:w8.tape=w.tape) (A:w8.output=w.output) (v:w.heap.size<=w8.heap.size) (l:∀x,x<w.heap.size->x≠k->va.ownBlock≠some x->w8.heap[x]? =w.heap[x]?):
  dm B (VM f i v7) w8 DB s p (eP M i ⟨e.name,L,e.parent,e.kids⟩) nx c/\(∀x,x<w.heap.size->VM f i v7 x=f x)/\KT f w w8:=by
 have r:=bu he.cells;have C:va.ownBlock≠some k:=λb=>by have a:=he.oC k b;rw[he.tag] at a;cases a
 have m:∀x,x<w.heap.size->VM f i v7 x=f x:=λx n=>by
  unfold VM;split
  .rename_i a;rcases y with o|o
   .exact(he.oC x (o.symm.trans a)).symm
   .grind
  .rfl
 refine⟨h.put hi hp (va:=v7) (vk:=vk) ⟨hE,?_,u,?_,?_,?_⟩ v (h.wf i e hi) m ?_ ?_ ?_,m,⟨z,d,A,v,λx n q=>?_⟩⟩
 .rw[m k r];exact he.tag
 .intro g j;unfold VM;rw[aR j]
 .exact dF he.kids λg j=>l g (he.kids.lt g j).2 (λb=>by have a:=he.jQ g j;rw[b,he.tag] at a;cases a) (λb=>by have a:=he.jQ g j;rw[he.oC g b] at a;cases a)
 .intro g j;rw[m g (he.kids.lt g j).2];exact he.jQ g j
 .intro x t d;unfold VM at d;split at d
  .rename_i a;exact u.lt x a
  .have:=h.low x t d;omega
 .intro x n;unfold VM;split
  .grind
  .exact .inl (h.new n)
 .intro x t d a o D;exact l x (h.low x t d).2 (λb=>by rw[b,he.tag] at d;cases d;exact a rfl) (λb=>by rw[he.oC x b] at d;cases d;exact o rfl)
 .exact l x n (λb=>by rw[b,he.tag] at q;cases q) (λb=>by rw[he.oC x b] at q;cases q)
theorem XV:∀(l:List (Bs×Bs)) (nm v:Bs),pQ l nm=none->sD l nm v=l++[(nm,v)]
 |[],_,_,_=>rfl
 |a::l,nm,v,h=>by
  rw[xJ] at h;rw[sD];by_cases b:(a.1==nm)=true
  .grind
  .rw[aG b] at h⊢;rw[XV l nm v h];rfl
theorem O7:∀(l:List (Bs×Bs)) (nm v:Bs) (k i:Nat),fI nm k l=((k+i:Nat):Int)->sD l nm v=l.set i (nm,v)/\FV l nm=l.take i++l.drop (i+1)/\∃x,l[i]? =some x/\x.1=nm
 |[],nm,v,k,i,h=>by unfold fI at h;omega
 |a::l,nm,v,k,i,h=>by
  unfold fI at h;rw[sD,FV];by_cases b:(a.1==nm)=true
  .rw[aR b] at h⊢;rw[aR b];obtain rfl:i=0:=aa;grind
  .rw[aG b] at h⊢;rw[aG b];have d:1<=i:=by
    rcases xR l nm (k+1) with⟨c, -⟩|⟨j,x,c, -⟩<;>omega
   obtain⟨j,rfl⟩:∃j,i=j+1:=⟨i-1,aa⟩;obtain⟨c,e,x,f,g⟩:=O7 l nm v (k+1) j (by rw[h];congr 1;omega);grind
theorem Jd:∀(l:List (Bs×Bs)) (i:Nat) (nm v:Bs),(∃x,l[i]? =some x/\x.1=nm)->(bZ l).set (i*2+1) (au ⟨v.toArray⟩)=bZ (l.set i (nm,v))
 |[],_,_,_,⟨x,h,_⟩=>by simp at h
 |a::l,0,nm,v,⟨x,h,b⟩=>by
  simp at h;subst h b;rfl
 |a::l,i+1,nm,v,⟨x,h,b⟩=>by
  have:=Jd l i nm v ⟨x,by simpa using h,b⟩;rw[show(i+1)*2+1=i*2+1+1+1 from by omega];simp only[bZ,gH,gK,List.set_cons_succ,this]
set_option maxRecDepth 20000
def xD (M:Dm)(n:Int)(nm v:Bs):Except Nat Dm:=match M n with
 |none=>.error 5
 |some e=>if iQ nm=false then .error 4 else if isVal v=false then .error 10 else if(pQ e.ats nm).isSome=false/\12<=e.ats.length then .error 7 else .ok (uI M n e (sD e.ats nm v))
def Kn (E:Nat->Addr)(B:Nat)(a:dG)(W:ai)(DB d:Nat)(p:Int->Option Nat)(nx c:Nat)(x:Except Nat Dm)(e:Ending)(w':ai):Prop:=match x with
 | .error k=>e=.returned (.iface 453 (.pointer (some (E k))))/\aD W w'
 | .ok f=>e=.returned .nilIface/\KT a W w'/\∃b,(∀x,x<W.heap.size->b x=a x)/\dm B b w' DB d p f nx c
theorem Je {w:ai}{B k n g a:Nat}{e:TypeId}{d:List ax}(h:w.ownsRow B e k (.slice (some ⟨g,0,none⟩) n a) n d)(j:Nat)(v:ax):(w.setCell ⟨g,j,none⟩ v).ownsRow B e k (.slice (some ⟨g,0,none⟩) n a) n (d.set j v):=by
 obtain⟨i,c⟩:=h;refine⟨by rw[List.length_set];exact i,?_⟩;rcases c with⟨c,_⟩|⟨t,f,b,l,m,o,p,q,r,s⟩
 .cases c
 .cases l;refine .inr ⟨g,a,b.setIfInBounds j v,rfl,m,heap_setCell_same w g j b e v o,p,q,by simpa using r,?_⟩;rw[<- s,Array.toList_setIfInBounds,List.take_set]
theorem Dg {w:ai}{B k n g a:Nat}{e:TypeId}{c:List ax}(h:w.ownsRow B e k (.slice (some ⟨g,0,none⟩) n a) n c)(j:Nat):w.frozen? ⟨g,j,none⟩=false:=by
 rcases h.2 with⟨d,_⟩|⟨m,b,f,i,o,l, -⟩
 .cases d
 .cases i;exact bG l j
section
variable {E:Nat->Addr}{B:Nat}{s:dG}{W:ai}{DB z:Nat}{p:Int->Option Nat}{M:Dm}{nx c:Nat}
theorem a8J (hE:DE E W)(h:dm B s W DB z p M nx c)(hB:B<=W.heap.size)(n:Int)(P:eH n)(nm v:Bs)(b9:nm.length<=1000000)(c0:v.length<=1000000):
  aL 144 #[aK DB,ag n,.string ⟨nm.toArray⟩,.string ⟨v.toArray⟩] W λe w'=>Kn E B s W DB z p nx c (xD M n nm v) e w':=by
 have d0:=h.d0;have k4:=hE.c4;have k5:=hE.c5;have c1:=hE.c10;unfold xD;cases hm:M n with
 |none=>
  have t:=h.non n hm;simp only;go_enter func144,ntmps144;go_wp2_with(at_lookup;refine kG _ rfl _ _ 138 rfl underlying3 underlying138 (dA _) rfl h.map n rfl P t ?_);go_ret;exact⟨rfl,aW _ _⟩
 |some e=>
  obtain⟨j,va,vk,t,d⟩:=h.els n e hm;have H:=jK ⟨nm.toArray⟩ (by show nm.length<=_;omega) W;have J:=DZ ⟨v.toArray⟩ (by show v.length<=_;omega) W;simp only at H J;simp only;cases S:iQ nm with
  |false=>
   rw[S] at H;rw[aR rfl];go_enter func144,ntmps144;go_wp2_with(first|(at_lookup;refine dJ _ rfl _ _ 138 rfl underlying3 underlying138 (dA _) rfl h.map n rfl P j t ?_)|(go_at_call 177;refine H.mono ?_;rintro f a ⟨rfl,rfl⟩));go_ret;exact⟨rfl,aW _ _⟩
  |true=>
   rw[S] at H;rw[aG aI];cases T:isVal v with
   |false=>
    rw[T] at J;rw[aR rfl];go_enter func144,ntmps144;go_wp2_with(first|(at_lookup;refine dJ _ rfl _ _ 138 rfl underlying3 underlying138 (dA _) rfl h.map n rfl P j t ?_)|(go_at_call 177;refine H.mono ?_;rintro f a ⟨rfl,rfl⟩)|(go_at_call 210;refine J.mono ?_;rintro f a ⟨rfl,rfl⟩));go_ret;exact⟨rfl,aW _ _⟩
   |true=>
    rw[T] at J;rw[aG aI];have U:=wX d nm;have b8:e.ats.length<=maxLen:=by
     obtain⟨o,c2, -,h2,h3, -⟩:=eT d.ats;omega
    rcases xR e.ats nm 0 with⟨V,w⟩|⟨i,x,V,K,w⟩
    .rw[V] at U;rw[w];obtain⟨A,m,QE⟩:=bD d.ats;subst QE;by_cases X:12<=e.ats.length
     .rw[aR ⟨rfl,X⟩];have Y:(12:Int)<=(e.ats.length:Int):=aa;have Z:∀a,aD W a->a.cell? (aJ j 1)=some (.slice A e.ats.length m)/\a.cell? (aJ 6 0)=some (.iface 453 (.pointer (some (E 7)))):=λa b=>⟨(b.cell (aM d.c1)).trans d.c1,(b.cell (aM hE.c7)).trans hE.c7⟩;go_enter func144,ntmps144;go_wp2_with(first|(at_lookup;refine dJ _ rfl _ _ 138 rfl underlying3 underlying138 (dA _) rfl h.map n rfl P j t ?_)|(go_at_call 177;refine H.mono ?_;rintro f a ⟨rfl,rfl⟩)|(go_at_call 210;refine J.mono ?_;rintro f a ⟨rfl,rfl⟩)|(go_at_call 211;refine U.mono ?_;rintro f a ⟨rfl,b⟩;obtain⟨q1,q7⟩:=Z a b));go_ret;exact⟨rfl,b⟩
     .rw[aG (λhh=>X hh.2)];have Y:(e.ats.length:Int)<12:=aa;obtain⟨i0,hi,a6,a7,a8⟩:=info_parts AA;have Z:∀a,aD W a->a.cell? (aJ j 1)=some (.slice A e.ats.length m):=λa b=>(b.cell (aM d.c1)).trans d.c1;have OW:∀a,aD W a->(a.alloc (.cells #[.string ⟨nm.toArray⟩,.string ⟨v.toArray⟩] 145)).ownsRow B 145 2 (.slice A e.ats.length m) e.ats.length (bZ e.ats):=λa b=>iF (bY d.ats b) _;have a4:some j≠(Value.slice A e.ats.length m).ownBlock:=λf=>by have l:=d.oC j f.symm;rw[d.tag] at l;cases l
      have E7:∀a,aD W a->∀C,(a.alloc (.cells #[.string ⟨nm.toArray⟩,.string ⟨v.toArray⟩] 145)).grownBy C (Value.slice A e.ats.length m).ownBlock->C.heap[j]? =some (.cells #[.string ⟨e.name.toArray⟩,.slice A e.ats.length m,ag e.parent,vk] 147):=λa b C gr=>by
       have q:=bf b (dR a (.cells #[.string ⟨nm.toArray⟩,.string ⟨v.toArray⟩] 145));exact(gr.block j (fK (bu d.cells) q.size) a4).trans ((q.block j (bu d.cells)).trans d.cells)
      go_enter func144,ntmps144;go_upto_region 14 with(first|(at_lookup;refine dJ _ rfl _ _ 138 rfl underlying3 underlying138 (dA _) rfl h.map n rfl P j t ?_)|(go_at_call 177;refine H.mono ?_;rintro f a ⟨rfl,rfl⟩)|(go_at_call 210;refine J.mono ?_;rintro f a ⟨rfl,rfl⟩)|(go_at_call 211;refine U.mono ?_;rintro f a ⟨rfl,b⟩;have q1:=Z a b;have ES:=OW a b;have H0:=dY a #[.string ⟨nm.toArray⟩,.string ⟨v.toArray⟩] 145;have c3:=b.size));go_wp2_with(at_builtin;(refine wpList_append_own_at _ rfl _ _ 47 rfl B 145 i0 (.agg #[.string ⟨#[]⟩,.string ⟨#[]⟩]) 2 32 underlying47 hi a6 a7 a8 rfl aC _ _ _ rfl ES ⟨a.heap.size,0,none⟩ 1 1 [.string ⟨nm.toArray⟩,.string ⟨v.toArray⟩] rfl rfl (World.news_of_block H0) (λu hu=>by simp at hu;rcases hu with rfl|rfl<;>rfl) (by simp only[maxLen];omega) aa bq ?_;intro v7 C kN k _ r;obtain⟨Q,R,rfl⟩:=bD kN;have k:(a.alloc (.cells #[.string ⟨nm.toArray⟩,.string ⟨v.toArray⟩] 145)).grownBy C (Value.slice A e.ats.length m).ownBlock:=k;have r:(Value.slice Q (e.ats.length+1) R).ownBlock=(Value.slice A e.ats.length m).ownBlock\/(Value.slice Q (e.ats.length+1) R).ownBlock=some (a.alloc (.cells #[.string ⟨nm.toArray⟩,.string ⟨v.toArray⟩] 145)).heap.size:=r;clear k r;have e7:=E7 a b C k;have c4:=aQ e7 1 _ rfl;have c5:=bG e7));go_ret;have q:=bf b (dR a (.cells #[.string ⟨nm.toArray⟩,.string ⟨v.toArray⟩] 145));have D:C.ownsRow B 145 2 (.slice Q (e.ats.length+1) R) (sD e.ats nm v).length (bZ (sD e.ats nm v)):=by
       rw[XV e.ats nm v w,E9,dO];exact kN
      have a9:(Value.slice Q (e.ats.length+1) R).ownBlock≠some j:=λf=>by
       rcases r with l|l
       .exact a4 (f.symm.trans l)
       .rw[l] at f;have:=bu d.cells;have:=q.size;cases f;omega
      have N:=h.ad5 hm t d (w8:=C.setCell ⟨j,1,none⟩ (.slice Q (e.ats.length+1) R)) (v7:=.slice Q (e.ats.length+1) R) (L:=sD e.ats nm v) (by rw[heap_setCell_same C j 1 _ _ _ e7];rfl) (dF D λg F=>dw _ _ _ g (λf=>a9 (by rw[F,f]))) (r.imp id λl g F=>by rw[l] at F;cases F;exact q.size) (k.os.trans q.os) (k.tape.trans q.tape) (k.output.trans q.output) (by rw[nu];exact bO q.size k.size) (λx hx l h2=>by rw[dw _ _ _ x l,k.block x (fK hx q.size) (λf=>h2 f.symm),q.block x hx]);exact⟨rfl,N.2.2,_,N.2.1,N.1⟩
    .rw[gq] at V;rw[V] at U;rw[w,aG (λhh=>by simp at hh)];obtain⟨I, -,b0⟩:=O7 e.ats nm v 0 i (by rw[V,gq]);obtain⟨c6, -⟩:=lK.1 K;obtain⟨g,F, -⟩:=eF d.ats _ _ (mO K).2;obtain⟨A,m,QE,c8,c9, -,h5⟩:=eT d.ats;have b3:=h5 g F;subst QE b3;have d1:(i:Int)<(e.ats.length:Int):=aa;have d2:(e.ats.length:Int)<=(m:Int):=aa;have b4:g≠j:=λf=>by have l:=d.oC g F;rw[f,d.tag] at l;cases l
     have Z:∀a,aD W a->a.cell? (aJ j 1)=some (.slice (some ⟨g,0,none⟩) e.ats.length m)/\a.cell? (aJ g (i*2+1))=some (.string ⟨x.2.toArray⟩)/\a.frozen? ⟨g,i*2+1,none⟩=false:=λa b=>by
      obtain⟨g',a5,hc⟩:=eF (bY d.ats b) _ _ (mO K).2;rw[F] at a5;cases a5;exact⟨(b.cell (aM d.c1)).trans d.c1,hc,Dg (bY d.ats b) _⟩
     go_enter func144,ntmps144;go_wp2_with(first|(at_lookup;refine dJ _ rfl _ _ 138 rfl underlying3 underlying138 (dA _) rfl h.map n rfl P j t ?_)|(go_at_call 177;refine H.mono ?_;rintro f a ⟨rfl,rfl⟩)|(go_at_call 210;refine J.mono ?_;rintro f a ⟨rfl,rfl⟩)|(go_at_call 211;refine U.mono ?_;rintro f a ⟨rfl,b⟩;obtain⟨q1,q2,q3⟩:=Z a b));go_ret;have D:=Je (bY d.ats b) (i*2+1) (.string ⟨v.toArray⟩);rw[Jd e.ats i nm v b0,<- I] at D;have b5:e.ats.length=(sD e.ats nm v).length:=by rw[I,List.length_set]
     have b6:(a.setCell ⟨g,i*2+1,none⟩ (.string ⟨v.toArray⟩)).heap[j]? =some (.cells #[.string ⟨e.name.toArray⟩,.slice (some ⟨g,0,none⟩) e.ats.length m,ag e.parent,vk] 147):=(dw _ _ _ j (λf=>b4 f.symm)).trans ((b.block j (bu d.cells)).trans d.cells);have b7:=nu a ⟨g,i*2+1,none⟩ (.string ⟨v.toArray⟩);have O:=(aW g a).setCell (p:=⟨g,i*2+1,none⟩) az (.string ⟨v.toArray⟩);have N:=h.ad5 hm t d (L:=sD e.ats nm v) b6 (by rw[<- b5];exact D) (.inl rfl) (O.os.trans b.os) (O.tape.trans b.tape) (O.output.trans b.output) (by rw[b7];exact b.size) (λy hy l h2=>by rw[dw _ _ _ y (λf=>h2 (by rw[F,f])),b.block y hy]);exact⟨rfl,N.2.2,_,N.2.1,N.1⟩
end
section
variable {B k n g s:Nat}{e:TypeId}
theorem M7:∀(vs:List ax) (o:Nat) (w:ai) (a:List ax),w.ownsRow B e k (aj (some ⟨g,0,none⟩) n s) n a->o+vs.length<=a.length->(w.setCells g o vs).ownsRow B e k (aj (some ⟨g,0,none⟩) n s) n (a.take o++vs++a.drop (o+vs.length))
 |[],o,w,a,h,_=>by simpa[World.setCells] using h
 |v::vs,o,w,a,h,c=>by
  simp only[eZ] at c;have b:=M7 vs (o+1) (w.setCell ⟨g,o,none⟩ v) (a.set o v) (Je h o v) (by rw[List.length_set];omega);rw[eX,List.take_set_of_le az,List.getElem?_set_self aa,List.drop_set_of_lt aa] at b;rw[eZ,show o+(vs.length+1)=o+1+vs.length from by omega];simpa[World.setCells] using b
theorem a8L {w:ai}{b:List ax}(h:w.ownsRow B e k (aj (some ⟨g,0,none⟩) n s) n b){m:Nat}(d:m<=n):w.ownsRow B e k (aj (some ⟨g,0,none⟩) m s) m (b.take (m*k)):=by
 have f:m*k<=n*k:=Nat.mul_le_mul_right k d;refine⟨by rw[iR,h.1];omega,?_⟩;rcases h.2 with⟨i,_⟩|⟨t,c,a,j,l,o,u,p,q,r⟩
 .cases i
 .cases j;exact .inr ⟨g,s,a,rfl,l,o,aa,p,q,by rw[<- r,List.take_take,Nat.min_eq_left f]⟩
theorem Sz {w:ai}{a:List ax}(h:w.ownsRow B e k (aj (some ⟨g,0,none⟩) n s) n a):∀(vs:List ax) (j:Nat),n*k<=j->(w.setCells g j vs).ownsRow B e k (aj (some ⟨g,0,none⟩) n s) n a
 |[],_,_=>h
 |v::vs,j,c=>by
  have b:=Je h j v;rw[List.set_eq_of_length_le (by rw[h.1];exact c)] at b;exact Sz b vs (j+1) aa
end
theorem rA (g:Nat):∀(vs:List ax) (o:Nat) (w:ai) (x:Nat),x≠g->(w.setCells g o vs).heap[x]? =w.heap[x]?
 |[],_,_,_,_=>rfl
 |v::vs,o,w,x,a=>(rA g vs (o+1) (w.setCell ⟨g,o,none⟩ v) x a).trans (dw _ _ _ x a)
theorem setCells_size (g:Nat):∀(vs:List ax) (o:Nat) (w:ai),(w.setCells g o vs).heap.size=w.heap.size
 |[],_,_=>rfl
 |v::vs,o,w=>(setCells_size g vs (o+1) (w.setCell ⟨g,o,none⟩ v)).trans (nu _ _ _)
theorem Ko (w:ai)(e:TypeId)(b o c:Nat)(hc:∀j,j<2->(w.cell? (aJ b (o+j))).isSome=true)(f:∀j,j<2->w.frozen? ⟨b,o+j,none⟩=false):
  (Builtin.clear_ #[47] e #[aj (some ⟨b,o,none⟩) 1 c]).run prog w=.ok (aH #[]) (w.setCells b o [au ⟨#[]⟩,au ⟨#[]⟩]):=by
 have d:∀w,(zeroValue 145).run prog w=.ok (.agg #[au ⟨#[]⟩,au ⟨#[]⟩]) w:=λw=>aA;have g:Builtin.zeroCells (Value.agg #[au ⟨#[]⟩,au ⟨#[]⟩]).cells 1=#[au ⟨#[]⟩,au ⟨#[]⟩]:=aA;have a:=run_storeCells_cells (P:=prog) b o [au ⟨#[]⟩,au ⟨#[]⟩] 0 w (by simpa using hc) (by simpa using f) (λv d=>by simp at d;rw[d];rfl);simp only[Nat.add_zero] at a;simp[Builtin.clear_,run_underlying underlying47,d,g,a]
theorem a0l (l:List (Bs×Bs))(i:Nat)(hi:i<l.length):((bZ l).take (i*2)++bZ (l.drop (i+1))++(bZ l).drop (i*2+(bZ (l.drop (i+1))).length)).take ((l.length-1)*2)=bZ (l.take i++l.drop (i+1)):=by
 have a:bZ l=bZ (l.take i)++bZ (l.drop i):=by rw[<- lW,jS]
 have c:(bZ (l.take i)).length=i*2:=by rw[kM,iR];omega
 have d:(bZ (l.drop (i+1))).length=(l.length-(i+1))*2:=by rw[kM,lC]
 have b:(bZ l).take (i*2)=bZ (l.take i):=by rw[a,List.take_append_of_le_length aa,jH aa]
 rw[lW,b,List.take_append_of_le_length (by rw[dO];omega),jH (by rw[dO];omega)]
theorem a8M {B:Nat}(w:ai)(g d i f:Nat)(l:List (Bs×Bs))(h:w.ownsRow B 145 2 (aj (some ⟨g,0,none⟩) l.length d) l.length (bZ l))(hi:i<l.length)(S:i+1=f):
  aL 212 #[aj (some ⟨g,0,none⟩) l.length d,ag i,ag f] w λe w'=>e=ay (aj (some ⟨g,0,none⟩) (l.length-1) d)/\w'.ownsRow B 145 2 (aj (some ⟨g,0,none⟩) (l.length-1) d) (l.length-1) (bZ (l.take i++l.drop (i+1)))/\w'.os=w.os/\w'.tape=w.tape/\w'.output=w.output/\w'.heap.size=w.heap.size/\∀x,x≠g->w'.heap[x]? =w.heap[x]? :=by
 obtain⟨W,H,X,I,Y⟩:=info_parts AA;obtain⟨o',c',J,T,hm, -, -⟩:=eT h;cases J;obtain⟨c,k⟩:∃c,c=bZ (l.drop f):=⟨_,rfl⟩;have p:c.length=(l.length-f)*2:=by rw[k,kM,lC]
 have Z:=kM l;have K:∀j,j<l.length*2->∃u,(bZ l)[j]? =some u/\w.cell? (aJ g j)=some u:=λj hj=>by
  obtain⟨u,q⟩:∃u,(bZ l)[j]? =some u:=⟨_,fD aa⟩;obtain⟨g',v,s⟩:=eF h j u q;cases v;exact⟨u,q,s⟩
 have y:=Dg h;obtain⟨A,hA,z⟩:∃A:Addr,(if d=f then some (⟨g,0,none⟩:Addr) else some ⟨g,f*2,none⟩)=some A/\Hid (∀t u,c[t]? =some u->w.drew.cell? (A.add t)=some u):=by
  by_cases s:d=f
  .refine⟨⟨g,0,none⟩,by simp[s],λt u q=>?_⟩;have h0:c.length=0:=by rw[p];omega
   rw[lu.1 h0] at q;simp at q
  .refine⟨⟨g,f*2,none⟩,by simp[s],λt u q=>?_⟩;have ht:t<c.length:=(lK.1 q).1;obtain⟨u',C,L⟩:=K (f*2+t) aa;have:u=u':=by
    have r:bZ l=bZ (l.take f)++bZ (l.drop f):=by rw[<- lW,jS]
    rw[r,pI (by rw[kM,iR];omega),kM,iR,Nat.min_eq_left aa,Nat.add_sub_cancel_left,<- k,q] at C;exact fT C
   subst this;have D:(⟨g,f*2,none⟩:Addr).add t=⟨g,f*2+t,none⟩:=by unfold Addr.add;split<;>simp_all
   rw[D];exact L
 have s1:=aF p;have s2:Hid (∀u∈c,u.oneCell'=true):=(by rw[k];exact GU _:∀u∈c,u.oneCell'=true);have s3:Hid (∀t,t<c.length->(w.drew.cell? (aJ g (0+i*2+t))).isSome=true/\w.drew.frozen? ⟨g,0+i*2+t,none⟩=false):=λt ht=>by
  rw[gq];obtain⟨u, -,s⟩:=K (i*2+t) aa;exact⟨by show(w.cell? _).isSome=true;rw[s];rfl,y _⟩
 obtain⟨n,o⟩:∃n,n=w.drew.setCells g (0+i*2) c:=⟨_,rfl⟩;have hW:=aF o;have U:w.drew.ownsRow B 145 2 (aj (some ⟨g,0,none⟩) l.length d) l.length (bZ l):=h;have E:n.ownsRow B 145 2 (aj (some ⟨g,0,none⟩) l.length d) l.length ((bZ l).take (i*2)++c++(bZ l).drop (i*2+c.length)):=by
  rw[o,gq];exact M7 c (i*2) w.drew (bZ l) U aa
 have M:=E.1;have a4:∀N,(Builtin.clear_ #[47] N #[aj (some ⟨g,(i+(l.length-f))*2,none⟩) (l.length-(i+(l.length-f))) (d-(i+(l.length-f)))]).run prog n=.ok (aH #[]) (n.setCells g ((i+(l.length-f))*2) [au ⟨#[]⟩,au ⟨#[]⟩]):=λN=>by
  rw[show l.length-(i+(l.length-f))=1 from by omega];refine Ko n N g _ _ (λj hj=>?_) (λj _=>Dg E _);obtain⟨u,q⟩:∃u,((bZ l).take (i*2)++c++(bZ l).drop (i*2+c.length))[(i+(l.length-f))*2+j]? =some u:=⟨_,fD aa⟩;obtain⟨g',v,s⟩:=eF E _ u q;cases v;rw[s];rfl
 have O:Hid ((n.setCells g ((i+(l.length-f))*2) [au ⟨#[]⟩,au ⟨#[]⟩]).ownsRow B 145 2 (aj (some ⟨g,0,none⟩) (l.length-1) d) (l.length-1) (bZ (l.take i++l.drop (i+1)))/\n.heap.size=w.heap.size/\∀x,x≠g->n.heap[x]? =w.heap[x]?):=by
  subst S;refine⟨Sz ?_ _ _ aa,by rw[o,setCells_size];rfl,λx F=>by rw[o,rA g _ _ _ x F];rfl⟩;have r:=a8L E (m:=l.length-1) aa;rw[k,a0l l i hi] at r;exact r
 have P:Hid (n.os=w.os/\n.tape=w.tape/\n.output=w.output):=by
  have r:=jd (B:=0) (b:=g) (a:=w) (bA _) c (0+i*2) w.drew ((aW 0 w).drew);rw[o];exact⟨r.os,r.tape,r.output⟩
 have a5:(i:Int)<=(f:Int):=aa;have a6:(f:Int)<=(l.length:Int):=aa;have a7:(l.length:Int)<=(d:Int):=aa;have a8:((i:Int)==(f:Int))=false:=dW.2 aa;have a9:f<=d:=aa;have b0:(i:Int)<=(d:Int):=aa;have V:¬d=i+(l.length-f):=aa;have Q:Hid (i+(l.length-f)=l.length-1):=(by omega:i+(l.length-f)=l.length-1);clear o E U K k p h M y S;go_enter func212,ntmps212;go_wp2_with fail
 go_region_law (refine step_append_room rfl (.tmp 22) (.tmp 25) 47 rfl 145 W 2 underlying47 H I g 0 i d (by simp[Act.eval,Act.put]) A (l.length-f) (d-f) c (by simp[Act.eval,Act.put]) s1.out z.out s2.out aa s3.out ?_;rw[<- hW.out])
 go_wp2_with fail;go_ret;obtain⟨k1,k2,k3⟩:=O.out;obtain⟨k4,k5,k6⟩:=P.out;have R:=jd (B:=0) (b:=g) (a:=n) (bA _) [au ⟨#[]⟩,au ⟨#[]⟩] ((i+(l.length-f))*2) n (aW 0 n);exact⟨by have r:=Q.out;simp only[r];rfl,k1,R.os.trans k4,R.tape.trans k5,R.output.trans k6,by rw[setCells_size];exact k2,λx F=>(rA g _ _ _ x F).trans (k3 x F)⟩
def sO (M:Dm)(n:Int)(nm:Bs):Except Nat Dm:=match M n with
 |none=>.error 5
 |some e=>if(pQ e.ats nm).isSome=false then .error 5 else .ok (uI M n e (FV e.ats nm))
theorem a0m {E:Nat->Addr}{B:Nat}{K:dG}{W:ai}{DB N:Nat}{p:Int->Option Nat}{M:Dm}{nx c:Nat}(hE:DE E W)(h:dm B K W DB N p M nx c)(n:Int)(O:eH n)(nm:Bs):
  aL 145 #[aK DB,ag n,au ⟨nm.toArray⟩] W λe w'=>Kn E B K W DB N p nx c (sO M n nm) e w':=by
 have d0:=h.d0;have k5:=hE.c5;unfold sO;cases P:M n with
 |none=>
  have C:=h.non n P;simp only;go_enter func145,ntmps145;go_wp2_with(at_lookup;refine kG _ rfl _ _ 138 rfl underlying3 underlying138 (dA _) rfl h.map n rfl O C ?_);go_ret;exact⟨rfl,aW _ _⟩
 |some e=>
  obtain⟨d,va,vk,C,f⟩:=h.els n e P;have D:=wX f nm;simp only;have F:e.ats.length<=maxLen:=by
   obtain⟨o,a4, -,X,h3, -⟩:=eT f.ats;omega
  rcases xR e.ats nm 0 with⟨z,m⟩|⟨i,x,z,t,m⟩
  .rw[z] at D;rw[m,aR aC];have I:∀a,aD W a->a.cell? (aJ 4 0)=some (aU 453 (.pointer (some (E 5)))):=λa b=>(b.cell (aM hE.c5)).trans hE.c5;go_enter func145,ntmps145;go_wp2_with(first|(at_lookup;refine dJ _ rfl _ _ 138 rfl underlying3 underlying138 (dA _) rfl h.map n rfl O d C ?_)|(go_at_call 211;refine D.mono ?_;rintro q a ⟨rfl,b⟩;have q7:=I a b));go_ret;exact⟨rfl,b⟩
  .rw[gq] at z;rw[z] at D;rw[m,aG (λhh=>by simp at hh)];obtain⟨-,k, -⟩:=O7 e.ats nm [] 0 i (by rw[z,gq]);obtain⟨Q, -⟩:=lK.1 t;obtain⟨g,Y, -⟩:=eF f.ats _ _ (mO t).2;obtain⟨ov,l,QE,a5,a6, -,h5⟩:=eT f.ats;have R:=h5 g Y;subst QE R;have H:g≠d:=λq=>by have J:=f.oC g Y;rw[q,f.tag] at J;cases J
   obtain⟨A,u⟩:∃A,i+1=A:=⟨_,rfl⟩;have a7:(i:Int)+1=(A:Int):=aa;have a8:(A:Int)<=9223372036854775807:=by rw[dD] at F;omega
   have I:∀a,aD W a->a.cell? (aJ d 1)=some (aj (some ⟨g,0,none⟩) e.ats.length l):=λa b=>(b.cell (aM f.c1)).trans f.c1;have Z:∀a,aD W a->aL 212 #[aj (some ⟨g,0,none⟩) e.ats.length l,ag i,ag A] a λS s=>S=ay (aj (some ⟨g,0,none⟩) (e.ats.length-1) l)/\s.cell? (aJ d 1)=some (aj (some ⟨g,0,none⟩) e.ats.length l)/\s.frozen? ⟨d,1,none⟩=false/\Hid (Kn E B K W DB N p nx c (.ok (uI M n e (FV e.ats nm))) (ay aY) (s.setCell ⟨d,1,none⟩ (aj (some ⟨g,0,none⟩) (e.ats.length-1) l))):=λa b=>(a8M a g l i A e.ats (bY f.ats b) Q u).mono λS s ⟨r1,r2,r3,r4,r5,r6,r7⟩=>by
    have T:=(b.block d (bu f.cells)).trans f.cells;have v:=(r7 d (λq=>H q.symm)).trans T;refine⟨r1,aQ v 1 _ rfl,bG v 1,?_⟩;have U:e.ats.length-1=(FV e.ats nm).length:=by rw[k,dO,iR,lC];omega
    rw[<- k] at r2;have V:=nu s ⟨d,1,none⟩ (aj (some ⟨g,0,none⟩) (e.ats.length-1) l);have w:=(aW d s).setCell (p:=⟨d,1,none⟩) az (aj (some ⟨g,0,none⟩) (e.ats.length-1) l);have r:=h.ad5 P C f (w8:=s.setCell ⟨d,1,none⟩ (aj (some ⟨g,0,none⟩) (e.ats.length-1) l)) (v7:=aj (some ⟨g,0,none⟩) (e.ats.length-1) l) (L:=FV e.ats nm) (by rw[heap_setCell_same s d 1 _ _ _ v];rfl) (by rw[<- U];exact dF r2 λj hj=>dw _ _ _ j (λq=>H (by cases hj;exact q))) (.inl rfl) (w.os.trans (r3.trans b.os)) (w.tape.trans (r4.trans b.tape)) (w.output.trans (r5.trans b.output)) (by rw[V,r6];exact b.size) (λy hy J X=>by rw[dw _ _ _ y J,r7 y (λq=>X (by rw[q];rfl)),b.block y hy]);exact⟨rfl,r.2.2,_,r.2.1,r.1⟩
   have a9:=aF u;clear u k t m z;go_enter func145,ntmps145;go_upto_region 7 with(first|(at_lookup;refine dJ _ rfl _ _ 138 rfl underlying3 underlying138 (dA _) rfl h.map n rfl O d C ?_)|(go_at_call 211;refine D.mono ?_;rintro q a ⟨rfl,b⟩));have q1:=I a b;have D1:=Z a b;clear D Z I;go_wp2_with(go_at_call 212;refine D1.mono ?_;rintro S s ⟨rfl,q2,q3,H2⟩);go_ret;exact H2.out
end
section
open Go.RowKit
section
variable {E:Nat->Addr}{W:ai}{LB B:Nat}{s:dG}{DB z:Nat}{p:Int->Option Nat}{M:Dm}{nx c:Nat}{r:Int->Nat}{rl:List Rl}{D:ax}{C:List fM}{pv:ax}{w h:Nat}{F:ax}
abbrev a8N (C:List fM)(w h:Nat):List aO:=nM bT ((C.map fM.pc).map iB) w h
theorem SG (l:LvS W LB B s DB z p M nx c r rl D C pv w h F)(u:1<=w)(R:w<=40)(S:1<=h)(T:h<=40):
  aL 49 #[aK LB] W λe w'=>∃g cp,e=ay (.agg #[ag w,ag h,aj (some ⟨g,0,none⟩) (w*h) cp])/\w'.ownsRow W.heap.size 9 1 (aj (some ⟨g,0,none⟩) (w*h) cp) (w*h) ((a8N C w h).map au)/\aD W w':=by
 obtain⟨a,b,x⟩:=bD l.XU;subst x;have y:=aQ l.lb 3 _ rfl;have A:=aQ l.lb 4 _ rfl;have E:=aQ l.lb 5 _ rfl;have m:=dR W (ak #[ag 0,ag 0,aj none 0 0] 81);have H:=dY W #[ag 0,ag 0,aj none 0 0] 81;have I:=dR (W.alloc (ak #[ag 0,ag 0,aj none 0 0] 81)) (ak #[ag w,ag h,aj a (w*h) b] 81);have i:=dY (W.alloc (ak #[ag 0,ag 0,aj none 0 0] 81)) #[ag w,ag h,aj a (w*h) b] 81;rw[dV] at i;have J:=(m.cell (aM y)).trans y;have K:=(m.cell (aM A)).trans A;have L:=(m.cell (aM E)).trans E;have j:(a8N C w h).length=w*h:=lY _ _ _ _;have V:w*h<=1600:=Nat.mul_le_mul R T;go_enter func49,ntmps49;go_upto_region 2 with fail;have d:=(I.block _ (bu H)).trans H;have n:=bf m I;obtain⟨U,P⟩:∃U,(W.alloc (ak #[ag 0,ag 0,aj none 0 0] 81)).alloc (ak #[ag w,ag h,aj a (w*h) b] 81)=U:=⟨_,rfl⟩;rw[P] at i d n⊢;clear P;have q:=a3V U _ (a8N C w h) (by rw[j];exact bY l.XU n) (by rw[j];omega);rw[j] at q;have q:=q.mono (R':=λe f=>∃g cp,e=ay (aj (some ⟨g,0,none⟩) (w*h) cp)/\pF f (W.heap.size+1) (ag w) (ag h) (aj a (w*h) b)/\pF f W.heap.size (ag 0) (ag 0) (aj none 0 0)/\Hid (f.ownsRow U.heap.size 9 1 (aj (some ⟨g,0,none⟩) (w*h) cp) (w*h) ((a8N C w h).map au)/\aD U f/\f.heap[W.heap.size]? =some (ak #[ag 0,ag 0,aj none 0 0] 81))) λe f ⟨o,k,Q,N,O⟩=>by
   obtain⟨g,cp,X, -, -⟩:=N.form (Nat.mul_pos u S);rw[X] at Q N;have Y:=(O.block _ (bu i)).trans i;have t:=(O.block _ (bu d)).trans d;exact⟨g,cp,Q,pF.of Y,pF.of t,N,O,t⟩
 obtain⟨c0,c1,c2,f0,f1,f2⟩:=pF.of i;have Z:W.heap.size+1<U.heap.size:=bu i;clear y A E J K L i d H m I;go_wp2_with(go_at_call 91;refine q.mono ?_;rintro e f ⟨g,cp,rfl,⟨a4,a5,a6,a7,a8,a9⟩,⟨z0,z1,z2,y0,y1,y2⟩,H2⟩);obtain⟨ow,b2,t⟩:=H2.out;have r4:=NM (w:=f.setCell ⟨W.heap.size+1,2,none⟩ (aj (some ⟨g,0,none⟩) (w*h) cp)) ((dw _ _ _ W.heap.size aI).trans t) (ag w) (ag h) (aj (some ⟨g,0,none⟩) (w*h) cp);obtain⟨e0,e1,e2, -, -, -⟩:=pF.of r4;refine bg (v:=.agg #[ag w,ag h,aj (some ⟨g,0,none⟩) (w*h) cp]) (by simp[results,results49,go_sem,e0,e1,e2]) rfl ?_;refine⟨g,cp,rfl,?_,((((bf n b2).setCell aI _).setCell aI _).setCell aI _).setCell aI _⟩;exact gz (jN (jN (jN (jN ow bq _) bq _) bq _) bq _) n.size
end
def SI:Bs:=[115,101,116]
def Dh:Bs:=[117,110,115,101,116]
section
variable {E:Nat->Addr}{N:Nat}{s:dG}{V:ai}{DB z:Nat}{p:Int->Option Nat}{M:Dm}{nx c:Nat}{r:Int->Nat}
theorem Kn.act {x:Except Nat Dm}{e:Ending}{w':ai}(h:jk N s V DB z p M nx c r)(d:Kn E N s V DB z p nx c x e w')(q:∀a,x=.ok a->fq a/\∃i y l,M i=some y/\a=uI M i y l):
  Below N V w'/\(((∃k,x=.error k)/\∃t u,e=ay (aU t u))\/(e=ay aY/\∃v w a f g j,(x=.ok a/\f=nx/\g=c/\j=r)/\fq a/\jk N v w' DB z w a f g j)):=by
 cases x with
 |error k=>exact⟨d.2.mono h.low,.inl ⟨⟨k,rfl⟩,_,_,d.1⟩⟩
 |ok a=>
  obtain⟨A,m,B,H,C⟩:=d;obtain⟨D,i,y,l,n,o⟩:=q a rfl;refine⟨m.below (λb t F=>(h.w.low b t F).1) h.low,.inr ⟨A,B,p,a,nx,c,r,⟨rfl,rfl,rfl,rfl⟩,D,C,?_,?_,h.le,bO h.low m.size⟩⟩
  .rw[o];exact h.d.ats n l
  .rw[o];exact h.n.ats n l
theorem VN {n:Int}{nm v:Bs}(c:fq M):∀a,xD M n nm v=.ok a->fq a/\∃i y l,M i=some y/\a=uI M i y l:=λa h=>by
 unfold xD at h;cases b:M n with
 |none=>rw[b] at h;cases h
 |some e=>
  rw[b] at h;simp only at h;split at h
  .cases h
  .next d=>
   split at h
   .cases h
   .next f=>
    split at h
    .cases h
    .next g=>
     cases h;refine⟨c.set b (by simpa using d) (by simpa using f) ?_,n,e,_,b,rfl⟩;grind
theorem SN {n:Int}{nm:Bs}(c:fq M):∀a,sO M n nm=.ok a->fq a/\∃i y l,M i=some y/\a=uI M i y l:=λa h=>by
 unfold sO at h;cases b:M n with
 |none=>rw[b] at h;cases h
 |some e=>
  rw[b] at h;simp only at h;split at h
  .cases h
  .cases h;exact⟨c.off b,n,e,_,b,rfl⟩
end
set_option maxRecDepth 20000
theorem fq.put {M:Dm}(h:fq M){i:Int}{e:ig}(he:a8n e):fq (eP M i e):=λj x a=>by
 unfold eP at a;split at a
 .grind
 .exact h j x a
theorem fq.cut {M:Dm}(h:fq M)(l:List Int):fq (tY M l):=λj x a=>by
 unfold tY at a;split at a
 .cases a
 .exact h j x a
theorem fq.out {M:Dm}(h:fq M){n:Int}{e o:ig}(a:M e.parent=some o):fq (qi M n e o):=h.put (h _ o a)
theorem fq.mov {M:Dm}(h:fq M){n a:Int}{k:Nat}{e o q:ig}(he:M n=some e)(b:M e.parent=some o)(c:qi M n e o a=some q):fq (Zp M n a k e o q):=((h.out (n:=n) b).put (i:=n) (e:=⟨e.name,e.ats,a,e.kids⟩) (h n e he)).put (i:=a) (e:=⟨q.name,q.ats,q.parent,iO q.kids k n⟩) (h.out b a q c)
section
variable {E:Nat->Addr}{N:Nat}{s:dG}{W:ai}{DB z:Nat}{p:Int->Option Nat}{M:Dm}{nx c:Nat}{r:Int->Nat}
theorem a4s (hE:DE E W)(f:dm N s W DB z p M nx c)(d a:Int)(b:Bs)(g:eH d)(q:ig)(m:M d=some q)(n:q.kids.length<=1000000)(v:¬a<0)(o:¬(q.kids.length:Int)<a)(h:iQ b=false)(t:b.length<=1000000):
  aL 141 #[aK DB,ag d,ag a,au ⟨b.toArray⟩] W λr w'=>r=ay (aH #[ag 0,eV (E 4)])/\aD W w':=by
 have x:=f.d0;have ck:=hE.c4;unfold eV;obtain⟨u,y,A,i,e⟩:=f.els d q m;obtain⟨B,C,rfl⟩:=bD e.kids;have D:=e.c3;have k:(q.kids.length:Int)<=1000000:=aa;have l:=λw=>jK ⟨b.toArray⟩ (by rw[iE];omega) w;have j:iQ (⟨b.toArray⟩:aO).data.toList=false:=by simpa using h
 rw[j] at l;go_enter func141,ntmps141;go_upto_region 7 with(first|(at_lookup;refine dJ _ rfl _ _ 138 rfl underlying3 underlying138 (dA _) rfl f.map d rfl g u i ?_)|(go_at_call 177;refine(l _).mono ?_;rintro r F ⟨rfl,rfl⟩));go_region;go_wp2_with fail
 go_ret2
 exact⟨rfl,rfl,rfl,rfl,bJ _,λ_ _=>rfl⟩
end
def Di:Bs:=[97,100,100]
def yj:Bs:=[114,101,109,111,118,101]
section
variable {E:Nat->Addr}{N:Nat}{s:dG}{V:ai}{DB z:Nat}{p:Int->Option Nat}{M:Dm}{nx c:Nat}{r:Int->Nat}
end
end
open Go.RowKit
theorem Up.same {M:Dm}:∀{d b:Nat} {i:Int},Up M i d->Up M i b->d=b
 |0,0,_,_,_=>rfl
 |0,_+1,_,h,h'=>by
  unfold Up at h h';grind
 |_+1,0,_,h,h'=>by
  unfold Up at h h';grind
 |d+1,b+1,_,h,h'=>by
  unfold Up at h h';obtain⟨e,c,f⟩:=h;obtain⟨j,a,g⟩:=h';rw[c] at a;cases a;exact congrArg Nat.succ (Up.same f g)
def ApF (E:Nat->Addr)(x:Ed)(M:Dm)(nx c k:Nat)(f:Dm)(g h:Nat):Prop:=∀N i V a b p r,LE E V->jk N i V a b p M nx c r->aL 84 #[aK a,.agg (tq x)] V λe d=>Below N V d/\((k≠0/\e=ay (eV (E k)))\/(k=0/\e=ay aY/\∃j l m,jk N j d a b l f g h m))
def ApX (E:Nat->Addr)(x:Ed)(M:Dm)(nx c:Nat):Prop:=∃k a b d,k<=10/\b<=nx+1/\fq a/\ApF E x M nx c k a b d
section
variable {E:Nat->Addr}{N:Nat}{s:dG}{V:ai}{DB z:Nat}{p:Int->Option Nat}{M:Dm}{nx c:Nat}{r:Int->Nat}
end
section
variable {E:Nat->Addr}{M:Dm}{nx c:Nat}
end
set_option maxRecDepth 20000
def ApC (DB:Nat)(V:ai)(n m ea:Int)(nm v:Bs)(Q:ax->ai->Prop)(b:Bs):Prop:=
 (b=SI/\aL 144 #[aK DB,ag n,au ⟨nm.toArray⟩,au ⟨v.toArray⟩] V λe a=>∃u,e=ay u/\Q u a)\/
 (b=yj/\aL 142 #[aK DB,ag n] V λe a=>∃u,e=ay u/\Q u a)\/
 (b=Di/\aL 141 #[aK DB,ag n,ag ea,au ⟨nm.toArray⟩] V λe a=>∃y u,e=ay (aH #[y,u])/\Q u a)\/
 (b=Dh/\aL 145 #[aK DB,ag n,au ⟨nm.toArray⟩] V λe a=>∃u,e=ay u/\Q u a)\/
 (b=rV/\aL 143 #[aK DB,ag n,ag m,ag ea] V λe a=>∃u,e=ay u/\Q u a)
variable {E:Nat->Addr}{V:ai}{DB:Nat}{M s:Dm}{nx c k C z:Nat}{D nm v:Bs}{n m ea:Int}
theorem a8O (Q:ax->ai->Prop)(h:ApC DB (V.alloc (ak (tq ⟨D,n,m,ea,nm,v⟩) 94)) n m ea nm v Q D):
  aL 84 #[aK DB,.agg (tq ⟨D,n,m,ea,nm,v⟩)] V λe w'=>∃u,e=ay u/\Q u w':=by
 obtain⟨c,d,z,f,g,i⟩:=EdC.of (dY V (tq ⟨D,n,m,ea,nm,v⟩) 94);rcases h with⟨rfl,h⟩|⟨rfl,h⟩|⟨rfl,h⟩|⟨rfl,h⟩|⟨rfl,h⟩
 all_goals
  first|unfold SI at* |unfold yj at* |unfold Di at* |unfold Dh at* |unfold rV at*
  go_enter func84,ntmps84;go_wp2_with(first|(go_at_call 144;refine h.mono ?_;rintro e b ⟨u,rfl,a⟩)|(go_at_call 142;refine h.mono ?_;rintro e b ⟨u,rfl,a⟩)|(go_at_call 141;refine h.mono ?_;rintro e b ⟨y,u,rfl,a⟩)|(go_at_call 145;refine h.mono ?_;rintro e b ⟨u,rfl,a⟩)|(go_at_call 143;refine h.mono ?_;rintro e b ⟨u,rfl,a⟩));go_ret;exact⟨u,rfl,a⟩
def ahh (E:Nat->Addr)(N DB a k:Nat)(s:Dm)(C z:Nat)(V:ai)(u:ax)(w':ai):Prop:=Below N V w'/\((k≠0/\u=eV (E k))\/(k=0/\u=aY/\∃b c d,jk N b w' DB a c s C z d))
theorem Ew (H:∀N f V DB d p r,DE E V->jk N f V DB d p M nx c r->ApC DB V n m ea nm v (ahh E N DB d k s C z V) D):ApF E ⟨D,n,m,ea,nm,v⟩ M nx c k s C z:=λN f V DB d p r hE h=>by
 have g:=dR V (ak (tq ⟨D,n,m,ea,nm,v⟩) 94);exact(a8O _ (H N f _ DB d p r (hE.below g).de (h.below g))).mono λe o ⟨u,i,j,l⟩=>⟨(g.mono h.low).trans j,l.imp (λ⟨a,b⟩=>⟨a,by rw[i,b]⟩) (λ⟨a,b,c⟩=>⟨a,by rw[i,b],c⟩)⟩
def erN:Except Nat Dm->Nat
 | .error k=>k
 | .ok _=>0
def okD (M:Dm):Except Nat Dm->Dm
 | .error _=>M
 | .ok s=>s
theorem Kn.ap {N b:Nat}{f:dG}{p:Int->Option Nat}{r:Int->Nat}{x:Except Nat Dm}{e:Ending}{w':ai}(h:jk N f V DB b p M nx c r)(d:Kn E N f V DB b p nx c x e w')(g:∀k,x=.error k->k≠0)(j:∀s,x=.ok s->fq s/\∃i y l,M i=some y/\s=uI M i y l):
  ∃u,e=ay u/\ahh E N DB b (erN x) (okD M x) nx c V u w':=by
 cases x with
 |error k=>exact⟨_,d.1,d.2.mono h.low,.inl ⟨g k rfl,rfl⟩⟩
 |ok s=>
  obtain⟨m,a⟩:=Kn.act h d j;rcases a with⟨⟨k,a⟩, -⟩|⟨a,n,o,v,C,z,w,⟨q,rfl,rfl,rfl⟩, -,t⟩
  .cases a
  .cases q;exact⟨_,a,m,.inr ⟨rfl,rfl,n,o,_,t⟩⟩
theorem SQ {j:Nat}(h:xD M n nm v=.error j):j≠0/\j<=10:=by
 unfold xD at h;grind
theorem Jf {j:Nat}(h:sO M n nm=.error j):j≠0/\j<=10:=by
 unfold sO at h;grind
theorem XW (d:fq M)(e:eH n)(a:nm.length<=1000000)(b:v.length<=1000000):ApF E ⟨SI,n,m,ea,nm,v⟩ M nx c (erN (xD M n nm v)) (okD M (xD M n nm v)) nx c:=
 Ew λ_ _ _ _ _ _ _ hE h=>.inl ⟨rfl,(a8J hE h.w h.low n e nm v a b).mono λ_ _ f=>Kn.ap h f (λ_ g=>(SQ g).1) (VN d)⟩
theorem a0n (a:fq M)(b:eH n):ApF E ⟨Dh,n,m,ea,nm,v⟩ M nx c (erN (sO M n nm)) (okD M (sO M n nm)) nx c:=
 Ew λ_ _ _ _ _ _ _ hE h=>.inr (.inr (.inr (.inl ⟨rfl,(a0m hE h.w n b nm).mono λ_ _ d=>Kn.ap h d (λ_ e=>(Jf e).1) (SN a)⟩)))
theorem XX (b:fq M)(f:eH n)(d:nm.length<=1000000)(e:v.length<=1000000):ApX E ⟨SI,n,m,ea,nm,v⟩ M nx c/\ApX E ⟨Dh,n,m,ea,nm,v⟩ M nx c:=by
 refine⟨⟨_,_,nx,c,?_,Nat.le_succ _,?_,XW b f d e⟩,⟨_,_,nx,c,?_,Nat.le_succ _,?_,a0n b f⟩⟩
 .cases a:xD M n nm v with
  |error j=>exact(SQ a).2
  |ok s=>exact bA _
 .cases a:xD M n nm v with
  |error j=>exact b
  |ok s=>exact(VN b s a).1
 .cases a:sO M n nm with
  |error j=>exact(Jf a).2
  |ok s=>exact bA _
 .cases a:sO M n nm with
  |error j=>exact b
  |ok s=>exact(SN b s a).1
theorem VO (I:fq M)(K:eH n):ApX E ⟨yj,n,m,ea,nm,v⟩ M nx c:=by
 have z:∀k,k≠0->k<=10->(∀N g V DB i p r,DE E V->jk N g V DB i p M nx c r->aL 142 #[aK DB,ag n] V λe A=>e=ay (eV (E k))/\A=V)->ApX E ⟨yj,n,m,ea,nm,v⟩ M nx c:=λk f w L=>
  ⟨k,M,nx,c,w,Nat.le_succ _,I,Ew λN g V DB i p r hE h=>.inr (.inl ⟨rfl,(L N g V DB i p r hE h).mono λe A ⟨O,P⟩=>⟨_,O,by rw[P];exact aW _ _,.inl ⟨f,rfl⟩⟩⟩)⟩
 cases a:M n with
 |none=>exact z 5 aC aC λN g V DB i p r hE h=>Zu hE h.w n K a
 |some e=>
  by_cases f:n=0
  .exact z 3 aC aC λN g V DB i p r hE h=>by
    subst f;exact QT hE h.w e a
  cases q:M e.parent with
  |none=>
   refine z 3 aC aC λN g V DB i p r hE h=>?_;obtain⟨o,j, -⟩:=h.d.up n e a f;grind
  |some o=>
   refine⟨0,tY (qi M n e o) (dZ M 11 n),nx,c-(dZ M 11 n).length,aC,Nat.le_succ _,(I.out q).cut _,Ew λN g V DB i p r hE h=>.inr (.inl ⟨rfl,?_⟩)⟩;obtain⟨X,j,B,_⟩:=h.d.up n e a f;rw[q] at j;cases j;have l:=h.d.dp 11 n e a aa;have s:=h.d.a3l (o:=o) (d:=1) a f l;have C:dZ (qi M n e o) 11 n=dZ M 11 n:=by unfold dZ;rw[s]
   have D:∀x,x∈dZ M 11 n↔Bl M n x:=λx=>h.d.mem l;have u:(dZ M 11 n).Nodup:=h.d.tC 11 n 1;have J:=h.d.cutV a q D;have F:=J.count h.n u D;have Q:=h.le;refine(UK h.w n e o a f q (List.ne_nil_of_mem B) 11 aa (dZ M 11 n) (h.d.a7L a q l) C (λk y=>?_) u aa).mono ?_
   .obtain⟨x,R⟩:=((D k).1 y).in_;obtain⟨S,w,_⟩:=h.d.Fw a q R;have w:eP M e.parent ⟨o.name,o.ats,o.parent,woL o.kids n⟩ k=some S:=w;grind
   .rintro Y A ⟨rfl,y,T,U,Z,W⟩;exact⟨_,rfl,y.below (λb t H=>(h.w.low b t H).1) h.low,.inr ⟨rfl,rfl,T,U,r,W,h.d.cut J (h.d.top f),F.1,aa,bO h.low y.size⟩⟩
theorem Jg (g:nx<1000000)(a:Nat)(i:iQ nm=true){q:ig}(f:M n=some q)(u:a<=q.kids.length)(B:¬∃d,10<=d/\Up M n d)(hc:¬100<=c):ApF E ⟨Di,n,m,a,nm,v⟩ M nx c 0 (eP (eP M nx ⟨nm,[],n,[]⟩) n ⟨q.name,q.ats,q.parent,iO q.kids a nx⟩) (nx+1) (c+1):=Ew λN C V DB D p r hE h=>by
 have w:=h.few f;have x:=h.d.deep _ n q rfl f;have y:=h.d.rb n q f;have j:r n<10:=by grind
 refine .inr (.inr (.inl ⟨rfl,(a7D h.w n a nm q f u i (r n) x j aa g aa h.low).mono ?_⟩));rintro e F ⟨rfl,o,z,A,H,k⟩;have s:=h.d.akB h.new aa f nm a;exact⟨_,_,rfl,o.below (λb t l=>(h.w.low b t l).1) h.low,.inr ⟨rfl,rfl,z,A,_,k,h.d.add s f aa,s.count h.n,aa,bO h.low o.size⟩⟩
theorem VP (c:fq M)(b:iQ nm=true){q:ig}(d:M n=some q)(a:Nat):fq (eP (eP M nx ⟨nm,[],n,[]⟩) n ⟨q.name,q.ats,q.parent,iO q.kids a nx⟩):=
 (c.put (i:=(nx:Int)) (e:=⟨nm,[],n,[]⟩) ⟨b,aI,aI,aI⟩).put (i:=n) (e:=⟨q.name,q.ats,q.parent,iO q.kids a nx⟩) (c n q d)
theorem a8P (u:nx<1000000)(l:eH n)(w:nm.length<=1000000):(∃k,1<=k/\k<=10/\ApF E ⟨Di,n,m,ea,nm,v⟩ M nx c k M nx c)\/∃(a:Nat) (q:ig),ea=a/\M n=some q/\a<=q.kids.length/\iQ nm=true/\ApF E ⟨Di,n,m,ea,nm,v⟩ M nx c 0 (eP (eP M nx ⟨nm,[],n,[]⟩) n ⟨q.name,q.ats,q.parent,iO q.kids a nx⟩) (nx+1) (c+1):=by
 have o:∀k,k≠0->k<=10->(∀N f V DB g p r,DE E V->jk N f V DB g p M nx c r->aL 141 #[aK DB,ag n,ag ea,au ⟨nm.toArray⟩] V λe B=>e=ay (aH #[ag 0,eV (E k)])/\aD V B)->∃k,1<=k/\k<=10/\ApF E ⟨Di,n,m,ea,nm,v⟩ M nx c k M nx c:=λk D x F=>
  ⟨k,aa,x,Ew λN f V DB g p r hE h=>.inr (.inr (.inl ⟨rfl,(F N f V DB g p r hE h).mono λe B ⟨H,I⟩=>⟨_,_,H,I.mono h.low,.inl ⟨D,rfl⟩⟩⟩))⟩
 cases b:M n with
 |none=>exact .inl (o 5 aC aC λN f V DB g p r hE h=>abO hE h.w n ea nm l b)
 |some q=>
  by_cases s:ea<0
  .exact .inl (o 2 aC aC λN f V DB g p r hE h=>a7F hE h.w n ea nm l q b (by have:=h.few b;omega) s)
  by_cases i:(q.kids.length:Int)<ea
  .exact .inl (o 2 aC aC λN f V DB g p r hE h=>Zt hE h.w n ea nm l q b (by have:=h.few b;omega) s i)
  cases j:iQ nm with
  |false=>exact .inl (o 4 aC aC λN f V DB g p r hE h=>a4s hE h.w n ea nm l q b (by have:=h.few b;omega) s i j w)
  |true=>
   by_cases y:∃d,10<=d/\Up M n d
   .obtain⟨d,J,z⟩:=y;exact .inl (o 8 aC aC λN f V DB g p r hE h=>by
     have A:=h.few b;have t:=h.d.deep _ n q rfl b;have K:=h.d.rb n q b;have:=Up.same z t;exact a3b hE h.w n ea nm l q b aa s i j (r n) t aa aa)
   by_cases C:100<=c
   .exact .inl (o 7 aC aC λN f V DB g p r hE h=>by
     have A:=h.few b;have t:=h.d.deep _ n q rfl b;have K:=h.d.rb n q b;exact a3c hE h.w n ea nm l q b aa s i j (r n) t aa (Nat.lt_of_not_le λx=>y ⟨_,x,t⟩) C)
   obtain⟨a,rfl⟩:∃a:Nat,ea=a:=⟨ea.toNat,aa⟩;exact .inr ⟨a,q,rfl,rfl,aa,rfl,Jg u a j b aa y C⟩
theorem a4t (hM:fq M)(C:eH n)(D:eH m):ApX E ⟨rV,n,m,ea,nm,v⟩ M nx c:=by
 have B:∀k,k≠0->k<=10->(∀N u V DB w p r,DE E V->jk N u V DB w p M nx c r->aL 143 #[aK DB,ag n,ag m,ag ea] V λe R=>e=ay (eV (E k))/\aD V R)->ApX E ⟨rV,n,m,ea,nm,v⟩ M nx c:=λk z h1 HC=>
  ⟨k,M,nx,c,h1,Nat.le_succ _,hM,Ew λN u V DB w p r hE h=>.inr (.inr (.inr (.inr ⟨rfl,(HC N u V DB w p r hE h).mono λe R ⟨g1,g2⟩=>⟨_,g1,g2.mono h.low,.inl ⟨z,rfl⟩⟩⟩)))⟩
 cases j:M n with
 |none=>
  cases A:M m with
  |none=>exact B 5 aC aC λN u V DB w p r hE h=>a7E hE h.w n m ea C D j A
  |some q=>exact B 5 aC aC λN u V DB w p r hE h=>a2Y hE h.w n m ea C D q j A
 |some x=>
  cases g:M m with
  |none=>exact B 5 aC aC λN u V DB w p r hE h=>a2Z hE h.w n m ea C D x j g
  |some s=>
   by_cases z:n=0
   .exact B 3 aC aC λN u V DB w p r hE h=>Zq hE h.w n m ea C D x s j g z
   by_cases l:m∈dZ M 11 n
   .exact B 9 aC aC λN u V DB w p r hE h=>by
     have i:=h.d.dp 11 n x j aa;exact UO hE h.w n m ea x s j g z C D 11 aa i (by have:=h.count (d:=1) i;omega) l
   by_cases S:ea<0
   .exact B 2 aC aC λN u V DB w p r hE h=>by
     have i:=h.d.dp 11 n x j aa;exact a3a hE h.w n m ea x s j g z C D 11 aa i (by have:=h.count (d:=1) i;omega) l S
   by_cases I:(if x.parent=m then(s.kids.length:Int)-1 else s.kids.length)<ea
   .exact B 2 aC aC λN u V DB w p r hE h=>by
     have i:=h.d.dp 11 n x j aa;exact UQ hE h.w n m ea x s j g z C D 11 aa i (by have:=h.count (d:=1) i;omega) l S (by have:=h.few g;omega) I
   by_cases T:∃d,Up M m d/\10<(d:Int)+nR (pre M 11 n 1)
   .obtain⟨d,J,U⟩:=T;exact B 8 aC aC λN u V DB w p r hE h=>by
     have i:=h.d.dp 11 n x j aa;have W:=h.d.deep _ m s rfl g;have K:=h.d.rb m s g;have L:=h.d.most (n:=n) (f:=11);have:=Up.same J W;exact Zr hE h.w n m ea x s j g z C D 11 aa i (by have:=h.count (d:=1) i;omega) l S (by have:=h.few g;omega) I d J aa U aa
   obtain⟨a,rfl⟩:∃a:Nat,ea=a:=⟨ea.toNat,aa⟩;cases O:M x.parent with
   |none=>
    refine B 3 aC aC λN u V DB w p r hE h=>?_;obtain⟨o,F, -⟩:=h.d.up n x j z;grind
   |some o=>
    cases A:qi M n x o m with
    |none=>
     unfold qi eP at A;grind
    |some q=>
     refine⟨0,Zp M n m a x o q,nx,c,aC,Nat.le_succ _,hM.mov j O A,Ew λN u V DB w p r hE h=>.inr (.inr (.inr (.inr ⟨rfl,?_⟩)))⟩;obtain⟨o',F,P,_⟩:=h.d.up n x j z;rw[O] at F;cases F;have i:=h.d.dp 11 n x j aa;have hl:=h.count (d:=1) i;have X:∀y,y∈dZ M 11 n↔Bl M n y:=λy=>h.d.mem i;have a4:=h.few g;have W:=h.d.deep _ m s rfl g;have K:=h.d.rb m s g;have L:=h.d.most (n:=n) (f:=11);have Q:m≠n:=λe1=>l ((X m).2 (by rw[e1];exact .self j));have H:=h.d.Rb j z;have a5:¬10<(r m:Int)+nR (pre M 11 n 1):=by grind
     have a6:(q.kids.length:Int)=if x.parent=m then(s.kids.length:Int)-1 else s.kids.length:=by
      unfold qi eP at A;by_cases he:m=x.parent
      .rw[aR he] at A;cases A;rw[aR he.symm];have h1:=a7K P (h.d.nodup _ o O);grind
      .grind
     have Y:a<=q.kids.length:=aa;have Z:q.kids.length<=1000000:=aa;refine(a2X h.w n m a x o s q j z O (List.ne_nil_of_mem P) H g A Q 11 aa i aa l aa aa Y Z (r m) W aa L.1 h.low).mono ?_;rintro e R ⟨rfl,hk,mX,ht,hd⟩;have hv:=h.d.akC j z O g A Q a;exact⟨_,rfl,hk.below (λb t K=>(h.w.low b t K).1) h.low,.inr ⟨rfl,rfl,mX,p,_,hd,h.d.move hv j z g (λK=>l ((X m).2 K)) X (h.d.fits aa),hv.count h.n,h.le,bO h.low hk.size⟩⟩

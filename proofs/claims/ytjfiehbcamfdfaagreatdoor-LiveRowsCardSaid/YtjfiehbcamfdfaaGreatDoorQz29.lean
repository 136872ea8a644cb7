/- Parts of the proof. -/
import Derived.Test.YtjfiehbcamfdfaaGreatDoorQz27
import Derived.Test.YtjfiehbcamfdfaaGreatDoorQz28
namespace Go.Proofs.YtjfiehbcamfdfaaGreatDoor
open Go.Proofs.Tryz
set_option maxHeartbeats 4000000
section
open Go.RowKit
set_option maxRecDepth 20000
def Kv {α:Type}(a b:α)(e:Ending):Prop:=(a=b/\e=.returned (.bool true))\/(a≠b/\e=.returned (.bool false))
def eqQ (a b:Qt):Bool:=((a.xn==b.xn && a.xd==b.xd) && (a.yn==b.yn && a.yd==b.yd))
theorem a0V (a:Qt):eqQ a a=true:=by simp[eqQ]
theorem a4w {a b:Qt}(h:a≠b):eqQ a b=false:=by
 cases a;cases b;unfold eqQ;rw[Bool.eq_false_iff];intro e;simp only[Bool.and_eq_true,beq_iff_eq] at e;obtain⟨⟨h1,h2⟩,h3,h4⟩:=e;subst h1 h2 h3 h4;exact h rfl
theorem a4x (a b:Qt)(w:ag):(binOp .neq 177 (lN a) (lN b)).run prog w=.ok (.bool (!eqQ a b)) w:=by
 simp[lN,eqQ,go_sem,underlying177,underlying127,underlying3]
 repeat' split
 all_goals simp_all
theorem a4y (a b:List Qt)(oa ob:Option Addr)(ca cb:Nat)(w:ag)(hla:a.length<=10000)(ha:eO w oa a)(hb:eO w ob b):
  ax 114 #[.slice oa a.length ca,.slice ob b.length cb] w fun e W=>Kv a b e/\Below w.heap.size w W:=by
 by_cases hne:a.length=b.length
 ·have hnb:((a.length:Int) !=(b.length:Int))=false:=by rw[hne];simp
  have Te:=aj hne;clear hne;go_enter func114,ntmps114;go_wp2_with fail
  go_loopw [13] (fun i wr=>∃k:Nat,k<=a.length/\i=aa k/\a.take k=b.take k/\Below w.heap.size w wr) (fun i _=>a.length-(intOf i).toNat)
  case atStart=>exact⟨0,Nat.zero_le _,rfl,rfl,Below.refl _ _⟩
  case round=>
   obtain⟨k,hk,rfl,hrt,hB⟩:=hrel;by_cases hlt:k<a.length
   ·have hlt':(k:Int)<(a.length:Int):=by omega
    have a8H:(k:Int)<(b.length:Int):=by have:=Te.out;omega
    obtain⟨x,hx⟩:∃x,a[k]? =some x:=⟨_,List.getElem?_eq_getElem hlt⟩;obtain⟨y,hy⟩:∃y,b[k]? =some y:=⟨_,List.getElem?_eq_getElem (by have:=Te.out;omega)⟩;obtain⟨b1,f1,rfl,c1⟩:=ha.below hB ai k x hx;obtain⟨b2,f2,rfl,c2⟩:=hb.below hB ai k y hy;have HX:Hid (a[k]? =some x/\b[k]? =some y):=⟨hx,hy⟩;clear hx hy;obtain⟨p0,p1,p2,p3, -⟩:=c1;obtain⟨q0,q1,q2,q3, -⟩:=c2;have NQ:∀w,(binOp .neq 177 (.agg #[aa x.xn,aa x.xd,aa x.yn,aa x.yd]) (.agg #[aa y.xn,aa y.xd,aa y.yn,aa y.yd])).run prog w=.ok (.bool (!eqQ x y)) w:=a4x x y;by_cases hxy:x=y
    ·subst hxy;rw[a0V] at NQ;go_upto_region 6 with fail;go_region
     all_goals
      go_wp2_with fail
      go_roundw
      case rel=>exact⟨k+1,by omega,by go_num,by rw[List.take_add_one,List.take_add_one,hrt,HX.out.1,HX.out.2],hB.drew⟩
      case measure=>simp[intOf];omega
    ·rw[a4w hxy] at NQ;have hno:a≠b:=fun h=>hxy (by
      have:=HX.out.1;rw[h,HX.out.2] at this;cases this;rfl)
     go_upto_region 6 with fail;go_region
     all_goals
      go_wp2_with fail;go_ret;exact⟨.inr ⟨hno,rfl⟩,hB.drew⟩
   ·obtain rfl:k=a.length:=by omega
    have hab:a=b:=by
     rw[List.take_length] at hrt;rw[Te.out,List.take_length] at hrt;exact hrt
    go_wp2_with fail;go_ret;exact⟨.inl ⟨hab,rfl⟩,hB⟩
 ·have hno:a≠b:=fun h=>hne (by rw[h]);have hne':((a.length:Int)==(b.length:Int))=false:=by rw[beq_eq_false_iff_ne];omega
  have hnb:((a.length:Int) !=(b.length:Int))=true:=by rw[bne,hne'];rfl
  clear hne;go_enter func114,ntmps114;go_wp2_with fail;go_ret;exact⟨.inr ⟨hno,rfl⟩,Below.refl _ _⟩
theorem Ky (x y:P5)(w:ag)(hl:x.s.pts.length<=10000)(hx:eO w x.o x.s.pts)(hy:eO w y.o y.s.pts):
  ax 64 #[UC x,UC y] w fun e W=>Kv x.s y.s e/\Below w.heap.size w W:=by
 have b0:=aU w (.cells (wH x) 138);have b1:=aU (w.alloc (.cells (wH x) 138)) (.cells (wH y) 138);have bb:=aA b0 b1;have EQ:=a4y x.s.pts y.s.pts x.o y.o x.cap y.cap ((w.alloc (.cells (wH x) 138)).alloc (.cells (wH y) 138)) hl (hx.below bb ai) (hy.below bb ai);by_cases h1:x.s.fill=y.s.fill
 ·have e1:(x.s.fill.toList==y.s.fill.toList)=true:=by rw[h1];simp
  by_cases h2:x.s.rule=y.s.rule
  ·have e2:(x.s.rule.toList==y.s.rule.toList)=true:=by rw[h2];simp
   have EQ2:ax 114 #[.slice x.o x.s.pts.length x.cap,.slice y.o y.s.pts.length y.cap] ((w.alloc (.cells (wH x) 138)).alloc (.cells (wH y) 138)) fun e W=>∃b,e=.returned (.bool b)/\Hid (Kv x.s y.s (.returned (.bool b))/\Below w.heap.size w W):=EQ.mono fun e W ⟨h3,h4⟩=>by
    rcases h3 with⟨h3,rfl⟩|⟨h3,rfl⟩
    ·refine⟨true,rfl,.inl ⟨?_,rfl⟩,aA bb h4⟩;cases hs:x.s with
     |mk a1 a2 a3=>
     cases ht:y.s with
     |mk b1 b2 b3=>
     rw[hs,ht] at h1 h2 h3;simp only at h1 h2 h3;rw[h1,h2,h3]
    ·exact⟨false,rfl,.inr ⟨fun e=>h3 (by rw[e]),rfl⟩,aA bb h4⟩
   clear EQ b0 b1 bb h1 h2 hx hy;go_enter func64,ntmps64;go_wp2_with(go_at_call 114;refine EQ2.mono ?_;rintro e w1 ⟨b,rfl,h⟩);go_ret;exact h.out
  ·have e2:(x.s.rule.toList==y.s.rule.toList)=false:=beq_eq_false_iff_ne.2 (fun h=>h2 (ba_eq h));have hn:x.s≠y.s:=fun h=>h2 (by rw[h]);clear EQ b0 b1 h1 h2 hx hy;go_enter func64,ntmps64;go_wp2_with fail;go_ret;exact⟨.inr ⟨hn,rfl⟩,bb⟩
 ·have e1:(x.s.fill.toList==y.s.fill.toList)=false:=beq_eq_false_iff_ne.2 (fun h=>h1 (ba_eq h));have hn:x.s≠y.s:=fun h=>h1 (by rw[h]);clear EQ b0 b1 h1 hx hy;go_enter func64,ntmps64;go_wp2_with fail;go_ret;exact⟨.inr ⟨hn,rfl⟩,bb⟩
theorem a4z (a b:List P5)(oa ob:Option Addr)(ca cb:Nat)(w:ag)(hla:a.length<=10000)(ha:gV w oa a)(hb:gV w ob b)(hpa:iK w a)(hpb:iK w b)(hpl:∀x∈a,x.s.pts.length<=10000):
  ax 62 #[.slice oa a.length ca,.slice ob b.length cb,.func (.func 64) #[] #[]] w fun e W=>Kv (sP a) (sP b) e/\Below w.heap.size w W:=by
 by_cases hne:a.length=b.length
 ·have hnb:((a.length:Int) !=(b.length:Int))=false:=by rw[hne];simp
  have Te:=aj hne;clear hne;go_enter func62,ntmps62;go_wp2_with fail
  go_loopw [17] (fun i wr=>∃k:Nat,k<=a.length/\i=aa k/\sP (a.take k)=sP (b.take k)/\Below w.heap.size w wr) (fun i _=>a.length-(intOf i).toNat)
  case atStart=>exact⟨0,Nat.zero_le _,rfl,rfl,Below.refl _ _⟩
  case round=>
   obtain⟨k,hk,rfl,hrt,hB⟩:=hrel;by_cases hlt:k<a.length
   ·have hlt':(k:Int)<(a.length:Int):=by omega
    have a8H:(k:Int)<(b.length:Int):=by have:=Te.out;omega
    obtain⟨x,hx⟩:∃x,a[k]? =some x:=⟨_,List.getElem?_eq_getElem hlt⟩;obtain⟨y,hy⟩:∃y,b[k]? =some y:=⟨_,List.getElem?_eq_getElem (by have:=Te.out;omega)⟩;obtain⟨b1,f1,rfl,p0,p1,p2,p3,p4⟩:=ha.below hB ai k x hx;obtain⟨b2,f2,rfl,cy⟩:=hb.below hB ai k y hy;have LA:∀V,Below wr.heap.size wr V->ax 64 #[UC x,UC y] V fun e W=>Kv x.s y.s e/\Below V.heap.size V W:=fun V hV=>Ky x y V (hpl x (List.mem_of_getElem? hx)) ((hpa x (List.mem_of_getElem? hx)).below (aA hB hV) ai) ((hpb y (List.mem_of_getElem? hy)).below (aA hB hV) ai);have LB:=LA ((wr.alloc (.cells (wH x) 138)).alloc (.cells (wH y) 138)) (aA (aU _ _) (aU _ _));have HX:Hid (a[k]? =some x/\b[k]? =some y):=⟨hx,hy⟩;obtain⟨q0,q1,q2,q3,q4⟩:=id cy;obtain⟨q0',q1',q2',q3',q4'⟩:=cy.below (aU wr (.cells (wH x) 138)) ai;clear hx hy LA;have bx:=aA (aU wr (.cells (wH x) 138)) (aU _ (.cells (wH y) 138));by_cases hxy:x.s=y.s
    ·have LB:=LB.mono (R':=fun e W=>e=.returned (.bool true)/\Hid (Below w.heap.size w W)) fun e W ⟨h1,h2⟩=>by
      rcases h1 with⟨-,h1⟩|⟨h1, -⟩
      ·exact⟨h1,aA hB (aA bx h2)⟩
      ·exact absurd hxy h1
     have HXY:=aj hxy;clear bx hxy;go_wp2_with(go_at_call 64;refine LB.mono ?_;rintro e w1 ⟨rfl,h1⟩)
     go_roundw
     case rel=>exact⟨k+1,by omega,by go_num,by rw[List.take_add_one,List.take_add_one,HX.out.1,HX.out.2,sP,sP,List.map_append,List.map_append,show List.map (·.s) (a.take k)=_ from hrt];simp[HXY.out],h1.out⟩
     case measure=>simp[intOf];omega
    ·have LB:=LB.mono (R':=fun e W=>e=.returned (.bool false)/\Hid (Below w.heap.size w W)) fun e W ⟨h1,h2⟩=>by
      rcases h1 with⟨h1, -⟩|⟨-,h1⟩
      ·exact absurd h1 hxy
      ·exact⟨h1,aA hB (aA bx h2)⟩
     have HN:Hid (sP a≠sP b):=(fun h=>hxy (by
      have h1:(sP a)[k]? =some x.s:=by rw[sP,List.getElem?_map,HX.out.1];rfl
      rw[h,sP,List.getElem?_map,HX.out.2] at h1;exact(Option.some.inj h1).symm):sP a≠sP b)
     clear bx;go_wp2_with(go_at_call 64;refine LB.mono ?_;rintro e w1 ⟨rfl,h1⟩);go_ret;exact⟨.inr ⟨HN.out,rfl⟩,h1.out⟩
   ·obtain rfl:k=a.length:=by omega
    rw[List.take_length] at hrt;have hab:sP a=sP b:=by
     rw[hrt,Te.out,List.take_length]
    clear hrt;go_wp2_with fail;go_ret;exact⟨.inl ⟨hab,rfl⟩,hB⟩
 ·have hno:sP a≠sP b:=fun h=>hne (by have:=congrArg List.length h;simpa[sP] using this);have hne':((a.length:Int)==(b.length:Int))=false:=by rw[beq_eq_false_iff_ne];omega
  have hnb:((a.length:Int) !=(b.length:Int))=true:=by rw[bne,hne'];rfl
  clear hne;go_enter func62,ntmps62;go_wp2_with fail;go_ret;exact⟨.inr ⟨hno,rfl⟩,Below.refl _ _⟩
abbrev lC (df:Nat->Bool)(k:Nat):List Int:=((List.range k).filter df).map fun(y:Nat)=>(y:Int)
theorem Tx {df:Nat->Bool}{k:Nat}(h:df k=true):lC df (k+1)=lC df k++[(k:Int)]:=by
 simp[lC,List.range_succ,h]
theorem XU {df:Nat->Bool}{k:Nat}(h:df k=false):lC df (k+1)=lC df k:=by
 simp[lC,List.range_succ,h]
theorem Ty (df:Nat->Bool)(k:Nat):(lC df k).length<=k:=by
 have:=List.length_filter_le df (List.range k);simpa[lC] using this
theorem Cf {w:ag}{l:List P5}(h:iK w l)(p:P5->Bool):iK w (l.filter p):=fun x hx=>h x (List.mem_filter.1 hx).1
theorem yY (aB aS aZ:Addr)(a b:List P5)(oa ob:Option Addr)(ca cb h:Nat)(df:Nat->Bool)(w:ag)(hla:a.length<=1000)(hlb:b.length<=1000)(ha:yN w oa ca a)(hb:yN w ob cb b)(hpa:iK w a)(hpb:iK w b)(hna:∀x∈a,x.s.pts.length<=1000)(hnb:∀x∈b,x.s.pts.length<=1000)(hE:E3 aB aS aZ w)(hh:h<=100)
  (hdf:∀y:Nat,df y=false↔sP (a.filter fun x=>aI x.s.pts y)=sP (b.filter fun x=>aI x.s.pts y)):
  ax 31 #[.slice oa a.length ca,.slice ob b.length cb,aa h] w fun e W=>∃v,e=.returned v/\W.ownsRow w.heap.size 3 1 v (lC df h).length (bD (lC df h))/\Below w.heap.size w W:=by
 obtain⟨i0,hi,hz0,hz1,hz2⟩:=info_parts zi;go_enter func31,ntmps31;go_wp2_with fail
 go_loopw [7,10] (fun u i wr=>∃(k:Nat) (o:Option Addr) (n cp:Nat),k<=h/\u=.slice o n cp/\i=aa k/\n=(lC df k).length/\wr.ownsRow w.heap.size 3 1 (.slice o n cp) n (bD (lC df k))/\Below w.heap.size w wr) (fun _ i _=>h-(intOf i).toNat)
 case atStart=>exact⟨0,none,0,0,Nat.zero_le _,rfl,rfl,rfl,World.ownsRow_nil _ _ _ _,Below.refl _ _⟩
 case round=>
  obtain⟨k,o,n,cp,hk,rfl,rfl,hn,hown,hB⟩:=hrel;have HN:=aj hn;have hnl:n<=k:=by rw[hn];exact Ty df k
  clear hn;by_cases hlt:k<h
  ·have hlt':(k:Int)<(h:Int):=by omega
   have RA:=vT aB aS aZ a oa ca (k:Int) wr hla (ha.below hB) (hpa.below hB ai) hna (hE.below hB ai);have RB:∀V,Below wr.heap.size wr V->_:=fun V hV=>vT aB aS aZ b ob cb (k:Int) V hlb (hb.below (aA hB hV)) (hpb.below (aA hB hV) ai) hnb (hE.below (aA hB hV) ai);have EF:∀(V:ag) o1 c1 o2 c2,Below wr.heap.size wr V->gV V o1 (a.filter fun x=>aI x.s.pts (k:Int))->gV V o2 (b.filter fun x=>aI x.s.pts (k:Int))->ax 62 #[.slice o1 (a.filter fun x=>aI x.s.pts (k:Int)).length c1,.slice o2 (b.filter fun x=>aI x.s.pts (k:Int)).length c2,.func (.func 64) #[] #[]] V fun e W=>e=.returned (.bool (!df k))/\Below V.heap.size V W:=fun V o1 c1 o2 c2 hV h1 h2=>(a4z _ _ o1 o2 c1 c2 V (Nat.le_trans (List.length_filter_le _ _) (by omega)) h1 h2 (Cf (hpa.below (aA hB hV) ai) _) (Cf (hpb.below (aA hB hV) ai) _) (fun x hx=>by have:=hna x (List.mem_filter.1 hx).1;omega)).mono fun e W ⟨h3,h4⟩=>by
     refine⟨?_,h4⟩;rcases h3 with⟨h3,h5⟩|⟨h3,h5⟩
     ·rw[(hdf k).2 h3];exact h5
     ·have:df k=true:=by
       cases hd:df k with
       |true=>rfl
       |false=>exact absurd ((hdf k).1 hd) h3
      rw[this];exact h5
   generalize (a.filter fun x=>aI x.s.pts (k:Int))=fa at RA EF;generalize (b.filter fun x=>aI x.s.pts (k:Int))=fb at RB EF;cases hd:df k with
   |false=>
    rw[hd] at EF;have HR:=XU hd;have HRR:=aj HR;clear HR;go_wp2_with(first|(go_at_call 62;refine(EF _ _ _ _ _ (aA b1 b2) h1' h2).mono ?_;rintro e w3 ⟨rfl,b3⟩)|(have hu:=h1;go_at_call 63;refine(RB _ b1).mono ?_;rintro e w2 ⟨o2,c2,rfl,h2,b2⟩;have h1':=h1.below b2 ai)|(go_at_call 63;refine RA.mono ?_;rintro e w1 ⟨o1,c1,rfl,h1,b1⟩))
    go_roundw
    case rel=>
     have bb:=aA b1 (aA b2 b3);exact⟨k+1,o,n,cp,by omega,rfl,by go_num,by rw[HRR.out];exact HN.out,by rw[HRR.out];exact aP hown bb,aA hB bb⟩
    case measure=>simp[intOf];omega
   |true=>
    rw[hd] at EF;have HRR:Hid (lC df (k+1)=lC df k++[(k:Int)]):=Tx hd;go_upto_region 6 with(first|(go_at_call 62;refine(EF _ _ _ _ _ (aA b1 b2) h1' h2).mono ?_;rintro e w3 ⟨rfl,b3⟩)|(have hu:=h1;go_at_call 63;refine(RB _ b1).mono ?_;rintro e w2 ⟨o2,c2,rfl,h2,b2⟩;have h1':=h1.below b2 ai)|(go_at_call 63;refine RA.mono ?_;rintro e w1 ⟨o1,c1,rfl,h1,b1⟩));have bb:=aA b1 (aA b2 b3);have ED:=World.ownsRow.alloc (aP hown bb) (.cells #[aa k] 3);have H0:=World.alloc_heap_new w3 (.cells #[aa (k:Int)] 3);have hs3:=bb.size;have hsB:=hB.size;go_wp2_with(at_builtin;refine wpList_append_own _ rfl _ _ 42 rfl w.heap.size 3 i0 (aa 0) 1 8 underlying42 hi hz0 hz1 hz2 rfl (by decide) _ _ _ rfl ED ⟨w3.heap.size,0,none⟩ 1 1 [aa (k:Int)] rfl rfl (World.news_of_block H0) (fun u hu=>by simp at hu;subst hu;rfl) (by simp only[maxLen];omega) (by omega) (by simp;omega) ?_;intro v7 w7 kF lH _;obtain⟨o7,c7,rfl⟩:=aH kF)
    go_roundw
    case rel=>
     have hlen:(lC df (k+1)).length=n+1:=by rw[HRR.out,List.length_append,HN.out];rfl
     refine⟨k+1,o7,_,c7,by omega,rfl,by go_num,by rw[hlen],?_,?_⟩
     ·rw[HRR.out,bD,List.map_append];exact kF
     ·exact((aA hB bb).alloc (by omega) _).grown lH (by simp;omega) (fun j hj=>(hown.lt j hj).1)
    case measure=>simp[intOf];omega
  ·obtain rfl:k=h:=by omega
   go_wp2_with fail;go_ret;exact⟨_,rfl,by rw[<- HN.out];exact hown,hB⟩
end
section
def iQ:List (Bs×Bs)->Bs->Bs->List (Bs×Bs)
 |[],nm,v=>[(nm,v)]
 |a::l,nm,v=>if a.1==nm then(nm,v)::l else a::iQ l nm v
def Cg:List (Bs×Bs)->Bs->List (Bs×Bs)
 |[],_=>[]
 |a::l,nm=>if a.1==nm then l else a::Cg l nm
theorem jc (a:Bs×Bs)(l:List (Bs×Bs))(nm:Bs):jk (a::l) nm=if a.1==nm then some a.2 else jk l nm:=by
 unfold jk;rw[List.find?_cons];cases a.1==nm<;>rfl
theorem Qj (l:List (Bs×Bs))(nm v:Bs):jk (iQ l nm v) nm=some v:=by
 induction l with
 |nil=>rw[iQ,jc];simp
 |cons a l ih=>
  rw[iQ];by_cases h:(a.1==nm)=true
  ·rw[if_pos h,jc];simp
  ·rw[if_neg h,jc,if_neg h,ih]
theorem XV (l:List (Bs×Bs))(nm v:Bs)(h:jk l nm=some v):iQ l nm v=l:=by
 induction l with
 |nil=>cases h
 |cons a l ih=>
  rw[jc] at h;rw[iQ];by_cases hk:(a.1==nm)=true
  ·rw[if_pos hk] at h⊢;cases h;rw[<- eq_of_beq hk]
  ·rw[if_neg hk] at h⊢;rw[ih h]
theorem Tz (l:List (Bs×Bs))(nm v:Bs):iQ (iQ l nm v) nm v=iQ l nm v:=XV _ nm v (Qj l nm v)
theorem XW (l:List (Bs×Bs))(nm v:Bs):(iQ l nm v).length=if(jk l nm).isSome then l.length else l.length+1:=by
 induction l with
 |nil=>rfl
 |cons a l ih=>
  rw[iQ,jc];by_cases hk:(a.1==nm)=true
  ·rw[if_pos hk,if_pos hk];rfl
  ·rw[if_neg hk,if_neg hk,List.length_cons,ih,List.length_cons];cases jk l nm<;>rfl
theorem XX (l:List (Bs×Bs))(nm v:Bs){x:Bs×Bs}(h:x∈iQ l nm v):x=(nm,v)\/x∈l:=by
 induction l with
 |nil=>exact .inl (by simpa[iQ] using h)
 |cons a l ih=>
  rw[iQ] at h;by_cases hk:(a.1==nm)=true
  ·rw[if_pos hk] at h;rcases List.mem_cons.1 h with h|h
   ·exact .inl h
   ·exact .inr (List.mem_cons_of_mem _ h)
  ·rw[if_neg hk] at h;rcases List.mem_cons.1 h with h|h
   ·exact .inr (by rw[h];exact List.mem_cons_self ..)
   ·rcases ih h with h|h
    ·exact .inl h
    ·exact .inr (List.mem_cons_of_mem _ h)
def lK (M:Dm)(n:Int)(e:dO)(l:List (Bs×Bs)):Dm:=bJ M n ⟨e.name,l,e.parent,e.kids⟩
theorem Wd.ats {M:Dm}{r:Int->Nat}(h:Wd M r){n:Int}{e:dO}(he:M n=some e)(l:List (Bs×Bs)):Wd (lK M n e l) r:=by
 have back:∀i x,lK M n e l i=some x->∃y,M i=some y/\y.parent=x.parent/\y.kids=x.kids:=fun i x hx=>by
  unfold lK bJ at hx;by_cases hi:i=n
  ·subst hi;rw[if_pos rfl] at hx;cases hx;exact⟨e,he,rfl,rfl⟩
  ·rw[if_neg hi] at hx;exact⟨x,hx,rfl,rfl⟩
 have there:∀i y,M i=some y->∃x,lK M n e l i=some x/\x.parent=y.parent/\x.kids=y.kids:=fun i y hy=>by
  unfold lK bJ;by_cases hi:i=n
  ·subst hi;rw[he] at hy;cases hy;exact⟨_,if_pos rfl,rfl,rfl⟩
  ·exact⟨y,by rw[if_neg hi];exact hy,rfl,rfl⟩
 refine⟨?_,fun i hi=>?_,fun i x hx h0=>?_,fun i x k hx hk=>?_,fun i x hx=>?_,h.r0,fun i x hx=>?_⟩
 ·obtain⟨e0,h1,h2⟩:=h.root;obtain⟨x,h3,h4, -⟩:=there 0 e0 h1;exact⟨x,h3,h4.trans h2⟩
 ·cases hx:lK M n e l i with
  |none=>rfl
  |some x=>
   obtain⟨y,hy, -⟩:=back i x hx;rw[h.neg i hi] at hy;cases hy
 ·obtain⟨y,hy,h1,h2⟩:=back i x hx;obtain⟨q,hq,h3,h4⟩:=h.up i y hy h0;obtain⟨q',hq', -,h5⟩:=there _ q hq;rw[<- h1];exact⟨q',hq',by rw[h5];exact h3,h4⟩
 ·obtain⟨y,hy,h1,h2⟩:=back i x hx;rw[<- h2] at hk;obtain⟨z,hz,h3,h4⟩:=h.down i y k hy hk;obtain⟨z',hz',h5, -⟩:=there k z hz;exact⟨z',hz',h5.trans h3,h4⟩
 ·obtain⟨y,hy,h1,h2⟩:=back i x hx;rw[<- h2];exact h.nodup i y hy
 ·obtain⟨y,hy, -⟩:=back i x hx;exact h.rb i y hy
theorem Cd.ats {M:Dm}{c:Nat}(h:Cd M c){n:Int}{e:dO}(he:M n=some e)(l:List (Bs×Bs)):Cd (lK M n e l) c:=by
 obtain⟨k,h1,h2,h3⟩:=h;refine⟨k,h1,h2,fun x=>?_⟩;rw[h3];unfold lK bJ;by_cases hx:x=n
 ·subst hx;rw[if_pos rfl,he];simp
 ·rw[if_neg hx]
def Dz (l:List (Bs×Bs)):Prop:=(∀a∈l,fP a.1=true/\isVal a.2=true)/\(l.map Prod.fst).Nodup
def a0W (e:dO):Prop:=fP e.name=true/\e.ats.length<=12/\Dz e.ats
theorem Kz {ahead:List (Bs×Bs)}{a:Bs×Bs}:Pd ahead a=0↔fP a.1=true/\isVal a.2=true/\a.1 ∉ ahead.map Prod.fst:=by
 unfold Pd;by_cases h1:fP a.1=true
 ·rw[if_pos h1];by_cases h2:ahead.any (fun x=>x.1==a.1)=true
  ·rw[if_pos h2];rw[List.any_eq_true] at h2;obtain⟨x,hx,he⟩:=h2;refine⟨fun h=>(by cases h),fun h=>absurd (List.mem_map.2 ⟨x,hx,eq_of_beq he⟩) h.2.2⟩
  ·rw[if_neg h2];have h3:a.1 ∉ ahead.map Prod.fst:=fun h=>h2 (by
    obtain⟨x,hx,he⟩:=List.mem_map.1 h;rw[List.any_eq_true];exact⟨x,hx,by rw[he];simp⟩)
   by_cases h4:isVal a.2=true
   ·rw[if_pos h4];exact⟨fun _=>⟨h1,h4,h3⟩,fun _=>rfl⟩
   ·rw[if_neg h4];exact⟨fun h=>(by cases h),fun h=>absurd h.2.1 h4⟩
 ·rw[if_neg h1];exact⟨fun h=>(by cases h),fun h=>absurd h.1 h1⟩
theorem KF:∀(l ahead:List (Bs×Bs)),(ahead.map Prod.fst).Nodup->(Cz ahead l=0↔(∀a∈l,fP a.1=true/\isVal a.2=true)/\((ahead++l).map Prod.fst).Nodup)
 |[],ahead,hn=>by
  rw[Cz];simp[hn]
 |a::l,ahead,hn=>by
  rw[Cz];by_cases h:Pd ahead a=0
  ·rw[if_pos h];obtain⟨h1,h2,h3⟩:=Kz.1 h;have hn':((ahead++[a]).map Prod.fst).Nodup:=by
    rw[List.map_append,List.nodup_append];exact⟨hn,by simp,fun x hx y hy e=>by simp at hy;subst hy;subst e;exact h3 hx⟩
   rw[KF l (ahead++[a]) hn',List.append_assoc];constructor
   ·rintro⟨k1,k2⟩;exact⟨fun x hx=>by
     rcases List.mem_cons.1 hx with rfl|hx
     ·exact⟨h1,h2⟩
     ·exact k1 x hx,k2⟩
   ·rintro⟨k1,k2⟩;exact⟨fun x hx=>k1 x (by simp[hx]),k2⟩
  ·rw[if_neg h];refine⟨fun e=>absurd e h,fun⟨k1,k2⟩=>absurd (Kz.2 ⟨(k1 a (by simp)).1,(k1 a (by simp)).2,fun hm=>?_⟩) h⟩;rw[List.map_append,List.nodup_append] at k2;exact k2.2.2 a.1 hm a.1 (by simp) rfl
theorem Dz.ck {l:List (Bs×Bs)}:Cz [] l=0↔Dz l:=by
 rw[KF l [] (by simp),List.nil_append];rfl
theorem NT (l:List (Bs×Bs))(nm v:Bs):(iQ l nm v).map Prod.fst=if(jk l nm).isSome then l.map Prod.fst else l.map Prod.fst++[nm]:=by
 induction l with
 |nil=>rfl
 |cons a l ih=>
  rw[iQ,jc];by_cases hk:(a.1==nm)=true
  ·rw[if_pos hk,if_pos hk];simp[eq_of_beq hk]
  ·rw[if_neg hk,if_neg hk,List.map_cons,ih,List.map_cons];cases jk l nm<;>rfl
theorem TA {l:List (Bs×Bs)}{nm:Bs}(h:jk l nm=none):nm ∉ l.map Prod.fst:=by
 induction l with
 |nil=>simp
 |cons a l ih=>
  rw[jc] at h;by_cases hk:(a.1==nm)=true
  ·rw[if_pos hk] at h;cases h
  ·rw[if_neg hk] at h;simp only[List.map_cons,List.mem_cons,not_or];exact⟨fun e=>hk (by rw[e];simp),ih h⟩
theorem Dz.set {l:List (Bs×Bs)}{nm v:Bs}(h:Dz l)(h1:fP nm=true)(h2:isVal v=true):Dz (iQ l nm v):=by
 refine⟨fun a ha=>?_,?_⟩
 ·rcases XX l nm v ha with rfl|ha
  ·exact⟨h1,h2⟩
  ·exact h.1 a ha
 ·rw[NT];cases hs:jk l nm with
  |some v=>exact h.2
  |none=>
   simp only[Option.isSome_none,Bool.false_eq_true,if_false];rw[List.nodup_append];refine⟨h.2,by simp,fun x hx y hy e=>?_⟩;simp at hy;subst hy;subst e;exact TA hs hx
theorem Ch (l:List (Bs×Bs))(nm:Bs):(Cg l nm).Sublist l:=by
 induction l with
 |nil=>exact .slnil
 |cons a l ih=>
  rw[Cg];by_cases hk:(a.1==nm)=true
  ·rw[if_pos hk];exact List.sublist_cons_self a l
  ·rw[if_neg hk];exact ih.cons_cons a
theorem Dz.off {l:List (Bs×Bs)}{nm:Bs}(h:Dz l):Dz (Cg l nm):=
 ⟨fun a ha=>h.1 a ((Ch l nm).subset ha),((Ch l nm).map Prod.fst).nodup h.2⟩
def bY (M:Dm):Prop:=∀i e,M i=some e->a0W e
theorem bY.set {M:Dm}(h:bY M){n:Int}{e:dO}(he:M n=some e){nm v:Bs}(h1:fP nm=true)(h2:isVal v=true)(h3:(jk e.ats nm).isSome=true\/e.ats.length<12):bY (lK M n e (iQ e.ats nm v)):=fun i x hx=>by
 unfold lK bJ at hx;by_cases hi:i=n
 ·rw[if_pos hi] at hx;cases hx;obtain⟨k1,k2,k3⟩:=h n e he;refine⟨k1,?_,k3.set h1 h2⟩;show(iQ e.ats nm v).length<=12;rw[XW];split
  ·exact k2
  ·next hs=>
   rcases h3 with h3|h3
   ·exact absurd h3 hs
   ·omega
 ·rw[if_neg hi] at hx;exact h i x hx
theorem bY.off {M:Dm}(h:bY M){n:Int}{e:dO}(he:M n=some e){nm:Bs}:bY (lK M n e (Cg e.ats nm)):=fun i x hx=>by
 unfold lK bJ at hx;by_cases hi:i=n
 ·rw[if_pos hi] at hx;cases hx;obtain⟨k1,k2,k3⟩:=h n e he;exact⟨k1,Nat.le_trans (Ch e.ats nm).length_le k2,k3.off⟩
 ·rw[if_neg hi] at hx;exact h i x hx
end
section
open Go.RowKit
structure LE (E:Nat->Addr)(w:ag):Prop where
 ne:NE E w
 de:DE E w
 ty:w.cell? (ak 11 0)=some (.iface 302 (.agg #[hE]))
section
variable {E:Nat->Addr}{w w':ag}
theorem LE.ce (h:LE E w):CE E w:=⟨h.de.c4,h.de.c6,h.de.c7,h.de.c8,h.de.c10⟩
theorem LE.ep (h:LE E w):EP (E 2) (E 3) (E 3) (E 10) w:=⟨⟨h.de.c2,h.de.c3,rfl⟩,h.de.c10,h.ty⟩
theorem LE.below (h:LE E w)(hb:Below w.heap.size w w'):LE E w':=⟨h.ne.below hb,h.de.below hb ai,(hb.cell (aC h.ty)).trans h.ty⟩
end
theorem bY.fit {M:Dm}(h:bY M):Dn M/\SzD M:=by
 refine⟨fun n e he=>?_,fun n e he a ha=>?_⟩
 ·obtain⟨h1, -,h3⟩:=h n e he;refine⟨fun e1=>(by rw[e1] at h1;exact absurd h1 (by decide)),fun a ha=>?_⟩;have:=wZ (h3.1 a ha).2;omega
 ·obtain⟨-, -,h3⟩:=h n e he;exact wZ (h3.1 a ha).2
theorem KG {α β:Type}{f g:α->List β}:∀ks:List α,(∀j∈ks,f j=g j)->ks.flatMap f=ks.flatMap g
 |[],_=>rfl
 |k::ks,h=>by rw[List.flatMap_cons,List.flatMap_cons,h k (by simp),KG ks (fun j hj=>h j (by simp[hj]))]
theorem KH {α:Type}(q:α->Bool):∀l:List α,(l.filter q).length+(l.filter (fun x=> !q x)).length=l.length
 |[]=>rfl
 |a::l=>by
  have ih:=KH q l;cases hq:q a
  ·rw[List.filter_cons_of_neg (by simp[hq]),List.filter_cons_of_pos (by simp[hq]),List.length_cons,List.length_cons];omega
  ·rw[List.filter_cons_of_pos hq,List.filter_cons_of_neg (by simp[hq]),List.length_cons,List.length_cons];omega
theorem KI:∀(ks:List Nat) (l:List Pc),ks.Nodup->(ks.flatMap (fun(k:Nat)=>l.filter (fun x=>x.lv==(k:Int)))).length<=l.length
 |[],_,_=>Nat.zero_le _
 |k::ks,l,h=>by
  obtain⟨h1,h2⟩:=List.nodup_cons.1 h;have h3:=KI ks (l.filter (fun x=> !(x.lv==(k:Int)))) h2;have h4:ks.flatMap (fun(j:Nat)=>(l.filter (fun x=> !(x.lv==(k:Int)))).filter (fun x=>x.lv==(j:Int)))=ks.flatMap (fun(j:Nat)=>l.filter (fun x=>x.lv==(j:Int))):=by
   refine KG ks fun j hj=>?_;rw[List.filter_filter];congr 1;funext x;by_cases hx:x.lv=(j:Int)
   ·have:j≠k:=fun e=>h1 (e▸hj);simp[hx];omega
   ·simp[hx]
  rw[h4] at h3;rw[List.flatMap_cons,List.length_append];have h5:=KH (fun x:Pc=>x.lv==(k:Int)) l;omega
theorem XY (l:List Pc):(sJ l).length<=l.length:=KI _ l List.nodup_range
def yZ (M:Dm)(rl:List Rl):Prop:=∃l,eF M rl=.ok l/\∀x∈l,ji (fK x)
structure LvS (W:ag)(LB B:Nat)(tg:bf)(DB MB:Nat)(p:Int->Option Nat)(M:Dm)(nx c:Nat)(r:Int->Nat)(rl:List Rl)(rv:ah)(qs:List dm)(pv:ah)(w h:Nat)(cv:ah):Prop where
 lb:W.heap[LB]? =some (.cells #[ay DB,rv,pv,aa w,aa h,cv] 77)
 base:B<=LB
 ds:dN B tg W DB MB p M nx c r
 ok:bY M
 rok:∀x∈rl,YI x
 row:W.ownsRow B 110 3 rv rl.length (dZ rl)
 pc:uw W B pv qs
 pm:eF M rl=.ok (qs.map dm.pc)
 pk:∀x∈qs,ji (fK x.pc)
 ql:qs.length<=1000
 Uo:W.ownsRow B 9 1 cv (w*h) ((jD aI ((qs.map dm.pc).map fK) w h).map .string)
section
variable {E:Nat->Addr}{W w':ag}{LB B:Nat}{tg:bf}{DB MB:Nat}{p:Int->Option Nat}{M:Dm}{nx c:Nat}{r:Int->Nat}{rl:List Rl}{rv:ah}{qs:List dm}{pv:ah}{w h:Nat}{cv:ah}
theorem LvS.below (hl:LvS W LB B tg DB MB p M nx c r rl rv qs pv w h cv)(hb:Below W.heap.size W w'):LvS w' LB B tg DB MB p M nx c r rl rv qs pv w h cv:=
 ⟨(hb.block _ (aM hl.lb)).trans hl.lb,hl.base,hl.ds.below hb,hl.ok,hl.rok,aP hl.row hb,hl.pc.below hb,hl.pm,hl.pk,hl.ql,aP hl.Uo hb⟩
theorem Ci {M:Dm}{rl:List Rl}{l:List Pc}(hp:eF M rl=.ok l):l.length<=1000:=by
 unfold eF at hp;cases hc:dF M rl 101 0 [-1] .one (0,[]) with
 |error e=>rw[hc] at hp;cases hp
 |ok st=>
  rw[hc] at hp;have hl:=Except.ok.inj hp;rw[<- hl];have h1:=qM M rl 101 0 [-1] .one (0,[]) st hc ai;have h2:=vV M rl 101 0 [-1] .one (0,[]) st hc (Nat.zero_le _);have h3:=XY st.2;omega
end
end
section
open Go.RowKit
set_option maxRecDepth 20000
mutual
theorem XZ:∀(n:Nd) (deep ahead k:Nat) (p:Int),(iT n deep ahead).1=0->∀e∈oK k p n,a0W e
 | .mk nm ats ks,deep,ahead,k,p,h,e,he=>by
  unfold iT at h;split at h
  ·rename_i h1;rw[oK] at he;rcases List.mem_cons.1 he with rfl|he
   ·obtain⟨a1,a2, -⟩:=VM h1;refine⟨a1,a2,Dz.ck.1 ?_⟩;unfold ck1 at h1;obtain⟨b1,b2⟩:=vv (nm:=nm) (ats:=ats) (deep:=deep) (ahead:=ahead) (by unfold ck1;exact h1);rw[if_neg (by omega),if_neg (by omega),if_pos a1,if_neg (by omega)] at h1;exact h1
   ·exact Y3 ks _ _ _ _ h e he
  ·rename_i h1;exact(h1 h).elim
theorem Y3:∀(l:List Nd) (deep ahead k:Nat) (p:Int),(wo l deep ahead).1=0->∀e∈qb k p l,a0W e
 |[],_,_,_,_,_,e,he=>by simp[qb] at he
 |n::l,deep,ahead,k,p,h,e,he=>by
  by_cases h1:(iT n deep ahead).1=0
  ·rw[qy h1] at h;rw[qb] at he;rcases List.mem_append.1 he with he|he
   ·exact XZ n deep ahead _ _ h1 e he
   ·exact Y3 l _ _ _ _ h e he
  ·rw[vw h1] at h;exact(h1 h).elim
end
theorem xK {n:Nd}(hc:(iT n 1 0).1=0):bY (jV n):=fun i e he=>by
 unfold jV iA at he;split at he
 ·exact XZ n 1 0 0 (-1) hc e (List.mem_of_getElem? he)
 ·cases he
theorem TB (W:ag):ax 24 #[.string ⟨#[]⟩] W fun e w'=>e=.returned (.tuple #[.slice none 0 0,.nilIface])/\Below W.heap.size W w':=by
 go_enter func24,ntmps24;go_wp2_with fail;refine wp_loop_rounds 1 ?_;rw[rounds_succ];go_wp2_with fail
 go_ret2
 exact⟨rfl,Below.refl _ _⟩
def ada (n:Nd)(w h B:Nat)(e:Ending)(w':ag):Prop:=
 (¬((iT n 1 0).1=0/\yZ (jV n) [])/\∃t u,e=.returned (.tuple #[.pointer none,.iface t u]))\/
 ((iT n 1 0).1=0/\yZ (jV n) []/\∃LB tg DB MB p rv qs pv cv,e=.returned (.tuple #[ay LB,.nilIface])/\LvS w' LB B tg DB MB p (jV n) (gu n) (gu n) (Um n) [] rv qs pv w h cv)
theorem Cj {E:Nat->Addr}{V:ag}{base:Nat}{v:ah}{qs:List dm}(hE:LE E V)(h:uw V base v qs)(hl:qs.length<=1000)(w k:Nat)(hw1:1<=w)(hw:w<=40)(hk1:1<=k)(hk:k<=40):
  ax 25 #[v,.int .i64 w,.int .i64 k] V fun e W=>(((∀x∈qs,ji (fK x.pc))/\∃g cp,e=.returned (.tuple #[.agg #[.int .i64 w,.int .i64 k,.slice (some ⟨g,0,none⟩) (w*k) cp],.nilIface])/\W.ownsRow V.heap.size 9 1 (.slice (some ⟨g,0,none⟩) (w*k) cp) (w*k) ((jD aI ((qs.map dm.pc).map fK) w k).map .string))\/((¬∀x∈qs,ji (fK x.pc))/\∃a,e=.returned (.tuple #[.agg #[.int .i64 0,.int .i64 0,.slice none 0 0],.iface 113 (.pointer (some a))])))/\Below V.heap.size V W:=by
 obtain⟨o,cap,rfl,h1,h2⟩:=h.row;refine(UO _ _ _ _ (qs.map dm.p5) o cap w k V hw1 hw hk1 hk (by rw[List.length_map];exact hl) h1 h2 hE.ep).mono fun e W ⟨h3,h4⟩=>⟨?_,h4⟩;have hok:jy (qs.map dm.p5)↔∀x∈qs,ji (fK x.pc):=by
  unfold jy;constructor
  ·intro hh x hx;exact hh _ (List.mem_map_of_mem hx)
  ·intro hh x hx;obtain⟨y,hy,rfl⟩:=List.mem_map.1 hx;exact hh y hy
 rcases h3 with⟨h5,v,h6,h7⟩|⟨h5,a,h6⟩
 ·obtain⟨g,cp,rfl, -, -⟩:=h7.form (Nat.mul_pos hw1 hk1);rw[a2f] at h7;exact .inl ⟨hok.1 h5,g,cp,h6,h7⟩
 ·exact .inr ⟨fun hh=>h5 (hok.2 hh),a,h6⟩
theorem wu.a0Y {B B':Nat}{tg:bf}{w:ag}{i:Int}{b:Nat}{e:dO}{va vk:ah}(h:wu B tg w i b e va vk)(hb:B'<=B):wu B' tg w i b e va vk:=⟨h.cells,h.tag,fH h.ats hb,h.jH,fH h.kids hb,h.gD⟩
theorem aO.a0Y {B B':Nat}{tg:bf}{w:ag}{DB MB:Nat}{p:Int->Option Nat}{M:Dm}{nx c:Nat}(h:aO B tg w DB MB p M nx c)(hb:B'<=B):aO B' tg w DB MB p M nx c:=
 ⟨h.doc,h.jr,h.map,h.jg,fun i e he=>by obtain⟨b,va,vk,h1,h2⟩:=h.els i e he;exact⟨b,va,vk,h1,h2.a0Y hb⟩,h.non,fun b t ht=>⟨Nat.le_trans hb (h.low b t ht).1,(h.low b t ht).2⟩,h.dom,h.wf,h.few,h.Pf⟩
theorem a4A (V:ag)(base:Nat):uw V base (.slice none 0 0) []:=⟨World.ownsRow_nil _ _ _ _,fun x hx=>(by cases hx),fun x hx=>(by cases hx)⟩
theorem Y4 (E:Nat->Addr)(n:Nd)(c0 c1 c2:ah)(W:ag)(w h:Nat)(hE:LE E W)(hn:jX W c0 c1 c2 n)(hs:gu n<=1000000)(hw1:1<=w)(hw:w<=40)(Ac:1<=h)(hh:h<=40):
  ax 9 #[.agg #[c0,c1,c2],.string ⟨#[]⟩,.int .i64 w,.int .i64 h] W fun e w'=>Below W.heap.size W w'/\ada n w h W.heap.size e w':=by
 obtain⟨sa,oa,na,ka,xk,na',ka',rfl,rfl,rfl⟩:∃(sa:aD) (oa:Option Addr) (na ka:Nat) (xk:Option Addr) (na' ka':Nat),c0=.string sa/\c1=.slice oa na ka/\c2=.slice xk na' ka':=by
  obtain⟨nm,ats,ks⟩:=n;unfold jX at hn;obtain⟨h1, -,⟨o,cap,h2, -⟩,o',cap',h3, -⟩:=hn;exact⟨_,_,_,_,_,_,_,h1,h2,h3⟩
 have b0:=di W (.cells #[.string sa,.slice oa na ka,.slice xk na' ka'] 25);have hE0:=hE.below b0;have hn0:=hn.below b0;have kb:=cZ W #[.string sa,.slice oa na ka,.slice xk na' ka'] 25;go_enter func9,ntmps9;go_upto_region 1 with fail;obtain⟨U,hU⟩:∃U,W.alloc (.cells #[.string sa,.slice oa na ka,.slice xk na' ka'] 25)=U:=⟨_,rfl⟩;rw[hU] at b0 hE0 hn0 kb⊢;have k0:=aF kb 0 _ rfl;have k1:=aF kb 1 _ rfl;have k2:=aF kb 2 _ rfl;clear hU kb;by_cases hc:(iT n 1 0).1=0
 ·have DN:=a7Y E n _ _ _ U hE0.ce hn0 hs hc;have RS:=fun V=>TB V;have P0:∀V,Below U.heap.size U V->ax 25 #[.slice none 0 0,.int .i64 w,.int .i64 h] V fun e W=>∃g cp,e=.returned (.tuple #[.agg #[.int .i64 w,.int .i64 h,.slice (some ⟨g,0,none⟩) (w*h) cp],.nilIface])/\Below V.heap.size V W:=fun V hV=>(Cj (hE0.below hV) (a4A V 0) (by simp) w h hw1 hw Ac hh).mono fun e W ⟨h1,h2⟩=>by
   rcases h1 with⟨-,g,cp,h3, -⟩|⟨h1, -⟩
   ·exact⟨g,cp,h3,h2⟩
   ·exact absurd (fun x hx=>(by cases hx)) h1
  have PI:∀V B tg DB MB p,Below U.heap.size U V->dN B tg V DB MB p (jV n) (gu n) (gu n) (Um n)->ax 26 #[ay DB,.slice none 0 0] V fun e w'=>a0U E V (eF (jV n) []) e w'/\Below V.heap.size V w':=fun V B tg DB MB p hV hd=>Ce (l:=[]) (B0:=0) ⟨hd,(hE0.below hV).ne,(xK hc).fit.1,(xK hc).fit.2,fun x hx=>(by cases hx),World.ownsRow_nil _ _ _ _⟩;obtain⟨pm,hpm⟩:∃x,eF (jV n) []=x:=⟨_,rfl⟩;rw[hpm] at PI;have TC:=aj hpm;have HC:=aj hc;clear hpm hc;cases pm with
  |error ft=>
   have YH:Hid (¬yZ (jV n) []):=(fun⟨l,h1,_⟩=>by rw[TC.out] at h1;exact absurd h1 (by simp):¬yZ (jV n) []);have PI':∀V B tg DB MB p,Below U.heap.size U V->dN B tg V DB MB p (jV n) (gu n) (gu n) (Um n)->ax 26 #[ay DB,.slice none 0 0] V fun e w'=>∃pb,e=.returned (.tuple #[.slice none 0 0,.iface 113 (ay pb)])/\Below V.heap.size V w':=fun V B tg DB MB p hV hd=>(PI V B tg DB MB p hV hd).mono fun e w' ⟨⟨u,h1,pb,_,h2,_⟩,h3⟩=>⟨pb,by rw[h1,h2],h3⟩;clear PI TC;go_wp2_with(first|(go_at_call 26;refine(PI' _ _ _ _ _ _ (aG (aG b1 b2) (aG b3 (di w3 _))) (hd.below (aG b2 (aG b3 (di w3 _))))).mono ?_;rintro e w4 ⟨pb,rfl,b4⟩)|(go_at_call 25;refine(P0 _ (aG b1 b2)).mono ?_;rintro e w3 ⟨g,cp,rfl,b3⟩)|(go_at_call 24;refine(RS _).mono ?_;rintro e w2 ⟨rfl,b2⟩)|(go_at_call 23;refine DN.mono ?_;rintro e w1 ⟨b1,DB,MB,tg,p,rfl,hd⟩))
   go_ret2
   exact⟨aG (aG b0 b1) (aG b2 (aG b3 (aG (di w3 _) b4))),.inl ⟨fun hh=>YH.out hh.2,_,_,rfl⟩⟩
  |ok l=>
   have hll:=Ci TC.out;have PI':∀V B tg DB MB p,Below U.heap.size U V->dN B tg V DB MB p (jV n) (gu n) (gu n) (Um n)->ax 26 #[ay DB,.slice none 0 0] V fun e w'=>∃qs o m cp,e=.returned (.tuple #[.slice o m cp,.nilIface])/\Hid (qs.map dm.pc=l)/\uw w' V.heap.size (.slice o m cp) qs/\Below V.heap.size V w':=fun V B tg DB MB p hV hd=>(PI V B tg DB MB p hV hd).mono fun e w' ⟨⟨qs,v,h1,h2,h3,h4,h5⟩,h6⟩=>by
    obtain⟨o,cp,rfl⟩:=aH h3;exact⟨qs,o,_,cp,h2,h1,⟨h3,h4,h5⟩,h6⟩
   have Nz:=aj hll;clear PI hll;by_cases hk:∀x∈l,ji (fK x)
   ·have PP:∀V base v qs,Below U.heap.size U V->Hid (qs.map dm.pc=l)->uw V base v qs->ax 25 #[v,.int .i64 w,.int .i64 h] V fun e W=>∃g cp,e=.returned (.tuple #[.agg #[.int .i64 w,.int .i64 h,.slice (some ⟨g,0,none⟩) (w*h) cp],.nilIface])/\Hid (W.ownsRow V.heap.size 9 1 (.slice (some ⟨g,0,none⟩) (w*h) cp) (w*h) ((jD aI ((qs.map dm.pc).map fK) w h).map .string))/\Below V.heap.size V W:=fun V base v qs hV hq hp=>(Cj (hE0.below hV) hp (by have h1:=Nz.out;rw[<- hq.out,List.length_map] at h1;exact h1) w h hw1 hw Ac hh).mono fun e W ⟨h1,h2⟩=>by
     rcases h1 with⟨-,g,cp,h3,h4⟩|⟨h1, -⟩
     ·exact⟨g,cp,h3,h4,h2⟩
     ·exact absurd (fun(x:dm) hx=>hk x.pc (by rw[<- hq.out];exact List.mem_map_of_mem hx)) h1
    have HK:=aj hk;clear hk;go_wp2_with(first|(have hu:=q4;go_at_call 25;refine(PP _ _ _ qs (aG (aG b1 b2) (aG b3 (aG (di w3 _) b4))) q4 p4).mono ?_;rintro e w5 ⟨g5,cp5,rfl,p5,b5⟩)|(go_at_call 26;refine(PI' _ _ _ _ _ _ (aG (aG b1 b2) (aG b3 (di w3 _))) (hd.below (aG b2 (aG b3 (di w3 _))))).mono ?_;rintro e w4 ⟨qs,o4,n4,c4,rfl,q4,p4,b4⟩)|(go_at_call 25;refine(P0 _ (aG b1 b2)).mono ?_;rintro e w3 ⟨g,cp,rfl,b3⟩)|(go_at_call 24;refine(RS _).mono ?_;rintro e w2 ⟨rfl,b2⟩)|(go_at_call 23;refine DN.mono ?_;rintro e w1 ⟨b1,DB,MB,tg,p,rfl,hd⟩))
    go_ret2
    obtain⟨X,hX⟩:∃X,w5.alloc (.cells #[.int .i64 w,.int .i64 h,.slice (some ⟨g5,0,none⟩) (w*h) cp5] 40)=X:=⟨_,rfl⟩;have hXs:X.heap.size=w5.heap.size+1:=by rw[<- hX,World.size_alloc]
    have bX:Below w5.heap.size w5 X:=by rw[<- hX];exact di _ _
    have bL:=di X (.cells #[ay DB,.slice none 0 0,.slice o4 n4 c4,.int .i64 w,.int .i64 h,.slice (some ⟨g5,0,none⟩) (w*h) cp5] 77);have b34:=aG (di w3 (.cells #[.int .i64 w,.int .i64 h,.slice (some ⟨g,0,none⟩) (w*h) cp] 40)) b4;have b5L:=aG b5 (aG bX bL);have b1L:=aG b2 (aG b3 (aG b34 b5L));have bW:=aG b0 (aG b1 b1L);have z1:=b0.size;have z2:=(aG b0 (aG b1 (aG b2 b3))).size;have z3:=(aG b0 (aG b1 (aG b2 (aG b3 b34)))).size;have z4:=(aG b0 (aG b1 (aG b2 (aG b3 (aG b34 (aG b5 bX)))))).size;have z5:=(di w3 (.cells #[.int .i64 w,.int .i64 h,.slice (some ⟨g,0,none⟩) (w*h) cp] 40)).size;have hqk:∀x∈qs,ji (fK x.pc):=fun x hx=>HK.out x.pc (by rw[<- q4.out];exact List.mem_map_of_mem hx);have hql:qs.length<=1000:=by have h1:=Nz.out;rw[<- q4.out,List.length_map] at h1;exact h1
    have hd':=hd.below b1L;refine⟨by rw[hX];exact bW,.inr ⟨HC.out,⟨l,TC.out,HK.out⟩,w5.heap.size+1,tg,DB,MB,p,.slice none 0 0,qs,.slice o4 n4 c4,.slice (some ⟨g5,0,none⟩) (w*h) cp5,rfl,by rw[hX];exact⟨by rw[<- hXs];exact cZ _ _ _,by omega,⟨hd'.w.a0Y z1,hd'.d,hd'.n,hd'.le,bW.size⟩,xK HC.out,fun x hx=>(by cases hx),World.ownsRow_nil _ _ _ _,(p4.below b5L).low (by omega),by rw[q4.out];exact TC.out,hqk,hql,fH (aP p5.out (aG bX bL)) z3⟩⟩⟩
   ·have PP:∀V base v qs,Below U.heap.size U V->Hid (qs.map dm.pc=l)->uw V base v qs->ax 25 #[v,.int .i64 w,.int .i64 h] V fun e W=>∃a,e=.returned (.tuple #[.agg #[.int .i64 0,.int .i64 0,.slice none 0 0],.iface 113 (.pointer (some a))])/\Below V.heap.size V W:=fun V base v qs hV hq hp=>(Cj (hE0.below hV) hp (by have h1:=Nz.out;rw[<- hq.out,List.length_map] at h1;exact h1) w h hw1 hw Ac hh).mono fun e W ⟨h1,h2⟩=>by
     rcases h1 with⟨h1, -⟩|⟨-,a,h3⟩
     ·refine absurd (fun x hx=>?_) hk;rw[<- hq.out] at hx;obtain⟨y,hy,rfl⟩:=List.mem_map.1 hx;exact h1 y hy
     ·exact⟨a,h3,h2⟩
    have YH:Hid (¬yZ (jV n) []):=(fun⟨l',h1,h2⟩=>by rw[TC.out] at h1;have h3:=Except.ok.inj h1;subst h3;exact hk h2:¬yZ (jV n) []);clear hk;go_wp2_with(first|(have hu:=q4;go_at_call 25;refine(PP _ _ _ qs (aG (aG b1 b2) (aG b3 (aG (di w3 _) b4))) q4 p4).mono ?_;rintro e w5 ⟨a5,rfl,b5⟩)|(go_at_call 26;refine(PI' _ _ _ _ _ _ (aG (aG b1 b2) (aG b3 (di w3 _))) (hd.below (aG b2 (aG b3 (di w3 _))))).mono ?_;rintro e w4 ⟨qs,o4,n4,c4,rfl,q4,p4,b4⟩)|(go_at_call 25;refine(P0 _ (aG b1 b2)).mono ?_;rintro e w3 ⟨g,cp,rfl,b3⟩)|(go_at_call 24;refine(RS _).mono ?_;rintro e w2 ⟨rfl,b2⟩)|(go_at_call 23;refine DN.mono ?_;rintro e w1 ⟨b1,DB,MB,tg,p,rfl,hd⟩))
    go_ret2
    exact⟨aG (aG b0 b1) (aG b2 (aG b3 (aG (aG (di w3 _) b4) (aG b5 (di w5 _))))),.inl ⟨fun hh=>YH.out hh.2,_,_,rfl⟩⟩
 ·have DN:=a3O E n _ _ _ U hE0.ce hn0 hs hc;have HC:=aj hc;clear hc;go_wp2_with(go_at_call 23;refine DN.mono ?_;rintro e w1 ⟨b1,pb,rfl⟩)
  go_ret2
  exact⟨aG b0 b1,.inl ⟨fun hh=>HC.out hh.1,_,_,rfl⟩⟩
end
section
open Go.RowKit
section
variable {B:Nat}{tg:bf}{w w':ag}{DB MB:Nat}{p:Int->Option Nat}{M:Dm}{nx c:Nat}
theorem aO.a8I (h:aO B tg w DB MB p M nx c){k:Int}(hk0:0<=k)(hk1:k<nx){b:Nat}{e:dO}{va vk:ah}(hn:Rx B tg w b e va vk)(hw:bA e.parent/\∀k∈e.kids,bA k)
  (hm:eZ prog 3 w' MB (fun i=>if i=k then some b else p i) nx (c+1))
  (hs:∀x,x≠MB->w'.heap[x]? =w.heap[x]?) (hz:w.heap.size<=w'.heap.size):aO B (jR tg k b va vk) w' DB MB (fun i=>if i=k then some b else p i) (bJ M k e) nx (c+1):=by
 have old:∀x t,tg x=some t->jR tg k b va vk x=some t:=fun x t ht=>AB ht hn.tag (fun g hg=>(hn.jH g hg).1) (fun g hg=>(hn.gD g hg).1);have ne:∀x t,tg x=some t->t≠.map->x≠MB:=fun x t ht h2 e=>h2 (Option.some.inj (ht.symm.trans (e▸h.jg)));have nne:∀x,tg x=none->x≠MB:=fun x hx e=>(by rw[e,h.jg] at hx;exact absurd hx (by simp));refine⟨(hs DB (ne _ _ h.jr (by simp))).trans h.doc,old _ _ h.jr,hm,old _ _ h.jg,fun i f hf=>?_,fun i hi=>?_,fun x t ht=>?_,fun i f hf=>?_,fun i f hf=>?_,h.few,fun x j hj=>?_⟩
 ·unfold bJ at hf;by_cases hi:i=k
  ·rw[if_pos hi] at hf;cases hf;subst hi;refine⟨b,va,vk,by simp,⟨(hs b (nne b hn.tag)).trans hn.cells,by unfold jR;rw[if_pos rfl],bT hn.ats fun g hg=>?_,fun g hg=>?_,bT hn.kids fun g hg=>?_,fun g hg=>?_⟩⟩
   ·exact hs g (nne g (hn.jH g hg).1)
   ·unfold jR;rw[if_neg (hn.jH g hg).2,if_pos hg]
   ·exact hs g (nne g (hn.gD g hg).1)
   ·unfold jR;rw[if_neg (hn.gD g hg).2.1,if_neg (hn.gD g hg).2.2,if_pos hg]
  ·rw[if_neg hi] at hf;obtain⟨b',va',vk',h1,h2⟩:=h.els i f hf;refine⟨b',va',vk',by simp only[if_neg hi];exact h1,h2.turn fun g t ht hk=>⟨old g t ht,?_⟩⟩;exact hs g (ne g t ht (by rcases hk with rfl|rfl|rfl<;>simp))
 ·unfold bJ at hi;by_cases hj:i=k
  ·rw[if_pos hj] at hi;cases hi
  ·rw[if_neg hj] at hi;simp only[if_neg hj];exact h.non i hi
 ·unfold jR at ht;split at ht
  ·rename_i e;subst e;exact⟨hn.low,Nat.lt_of_lt_of_le (aM hn.cells) hz⟩
  ·split at ht
   ·rename_i e;have:=hn.ats.lt x e;omega
   ·split at ht
    ·rename_i e;have:=hn.kids.lt x e;omega
    ·have:=h.low x t ht;omega
 ·unfold bJ at hf;by_cases hi:i=k
  ·omega
  ·rw[if_neg hi] at hf;exact h.dom i f hf
 ·unfold bJ at hf;by_cases hi:i=k
  ·rw[if_pos hi] at hf;cases hf;exact hw
  ·rw[if_neg hi] at hf;exact h.wf i f hf
 ·unfold jR at hj;split at hj
  ·have:k=j:=by simpa using hj
   omega
  ·split at hj
   ·have:k=j:=by simpa using hj
    omega
   ·split at hj
    ·have:k=j:=by simpa using hj
     omega
    ·exact h.Pf x j hj
end
def nH (M:Dm)(left:Lit->Bool):Dm:=fun i=>if left (.int .i64 i) then none else M i
theorem NV {M:Dm}{left:Lit->Bool}{k:Int}{e:dO}(hk:M k=some e):nH M (fun z=>left z && !z.sameKey (.int .i64 k))=bJ (nH M left) k e:=by
 funext i;unfold nH bJ;by_cases h:i=k
 ·subst h;simp[Lit.sameKey,hk]
 ·have:(Lit.int .i64 i).sameKey (.int .i64 k)=false:=by simp[Lit.sameKey,h]
  simp[this,h]
theorem Cd.put {M:Dm}{c:Nat}(h:Cd M c){k:Int}(hk:M k=none)(e:dO):Cd (bJ M k e) (c+1):=by
 obtain⟨l,h1,h2,h3⟩:=h;refine⟨k::l,List.nodup_cons.2 ⟨fun hm=>(h3 k).1 hm hk,h1⟩,by simp[h2],fun x=>?_⟩;unfold bJ;by_cases hx:x=k
 ·subst hx;simp
 ·rw[if_neg hx,<- h3 x];simp[hx]
theorem Cd.uniq {M:Dm}{c d:Nat}(h:Cd M c)(k:Cd M d):c=d:=by
 obtain⟨l,h1,rfl,h3⟩:=h;obtain⟨m,k1,rfl,k3⟩:=k;exact List.Perm.length_eq ((List.perm_ext_iff_of_nodup h1 k1).2 fun x=>(h3 x).trans (k3 x).symm)
theorem Cd.a4B {M L:Dm}{c d:Nat}(h:Cd L c)(k:Cd M d)(hs:∀i f,L i=some f->∃g,M i=some g){x:Int}(hx:L x=none)(hm:∃e,M x=some e):c+1<=d:=by
 obtain⟨l,h1,rfl,h3⟩:=h;obtain⟨m,k1,rfl,k3⟩:=k;have hn:x ∉ l:=fun hl=>(h3 x).1 hl hx;refine zo (x::l) m (List.nodup_cons.2 ⟨hn,h1⟩) fun y hy=>(k3 y).2 ?_;rcases List.mem_cons.1 hy with rfl|hy
 ·obtain⟨e,he⟩:=hm;rw[he];simp
 ·cases hf:L y with
  |none=>exact absurd hf ((h3 y).1 hy)
  |some f=>obtain⟨g,hg⟩:=hs y f hf;rw[hg];simp
end
end Go.Proofs.YtjfiehbcamfdfaaGreatDoor

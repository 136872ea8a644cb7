/- Parts of the proof. -/
import Derived.Test.YtecneflbncjhpaaGreatDoorQp21
namespace Go.Proofs.YtecneflbncjhpaaGreatDoor
open Go.Proofs.Tryz
set_option maxHeartbeats 4000000
section
open Go.RowKit
set_option maxRecDepth 20000
theorem EM (aB aS aZ:Addr)(x:P5)(y:Int)(By:Nat)(w:ag)(hl:x.s.pts.length<=1000)(h:fH w x.o x.s.pts)(hE:E3 aB aS aZ w)(hy:w.cell? (ak By 0)=some (aa y)):
  au 213 #[VV x,ay By] w fun e W=>e=.returned (.bool (!aN x.s.pts y))/\Below w.heap.size w W:=by
 have b0:=bg w (.cells (xB x) 134);have RE:=yM aB aS aZ x y (w.alloc (.cells (xB x) 134)) hl (h.below b0 ai) (hE.below b0 ai);have hy1:=(b0.cell (aF hy)).trans hy;go_enter func213,ntmps213;go_wp2_with(go_at_call 81;refine RE.mono ?_;rintro e w1 ⟨rfl,b1⟩);go_ret;exact⟨rfl,aA b0 b1⟩
theorem xe (aB aS aZ:Addr)(l:List P5)(o:Option Addr)(cap:Nat)(y:Int)(w:ag)(hl:l.length<=1000)(h:zO w o cap l)(hP:j5 w l)(hp:∀x∈l,x.s.pts.length<=1000)(hE:E3 aB aS aZ w):
  au 161 #[.slice o l.length cap,aa y] w fun e W=>∃oo cc,e=.returned (.slice oo (l.filter fun x=>aN x.s.pts y).length cc)/\iH W oo (l.filter fun x=>aN x.s.pts y)/\Below w.heap.size w W:=by
 obtain⟨lr,hlr⟩:∃lr,(l.filter fun x=>aN x.s.pts y)=lr:=⟨_,rfl⟩;rw[hlr];have JD:Hid ((l.filter fun x=> !!aN x.s.pts y)=lr):=(by simpa using hlr:(l.filter fun x=> !!aN x.s.pts y)=lr);clear hlr;have b0:=bg w (.cells #[aa y] 3);have hcy:=(iT w (aa y) 3).1;go_enter func161,ntmps161;go_upto_region 1 with fail;obtain⟨U,hU⟩:∃U,w.alloc (.cells #[aa y] 3)=U:=⟨_,rfl⟩;rw[hU] at b0 hcy⊢;clear hU;have hPU:=hP.below b0 ai;have Nc:=hE.below b0 ai;have CL:=JB U o cap l (h.below b0) hl;have AR:a0G U.heap.size 213 w.heap.size U l (fun x=> !aN x.s.pts y):=fun x hx V hV=>EM aB aS aZ x y w.heap.size V (hp x hx) ((hPU x hx).below hV ai) (Nc.below hV ai) ((hV.cell (aF hcy)).trans hcy);have DF:∀v1 w1,Own5 w1 U.heap.size v1 l->Below U.heap.size U w1->au 78 #[v1,rfV 213 w.heap.size] w1 fun e w2=>∃oo cc,e=.returned (.slice oo lr.length cc)/\iH w2 oo lr/\Below U.heap.size U w2:=fun v1 w1 ow1 b1=>by
  rcases ow1.rw with⟨rfl,rfl⟩|⟨b,cc,rfl,hb1,hb2,hb3,hrw⟩
  ·refine(Fp 213 w.heap.size (qR _ _ func213 (by kernel_rfl) (by kernel_rfl)) w1).mono ?_;rintro e w2 ⟨rfl,b2⟩;exact⟨none,0,by rw[<- JD.out];rfl,fun i x hx=>by rw[<- JD.out] at hx;simp at hx,aA b1 b2⟩
  ·refine(Fj U.heap.size 213 w.heap.size (qR _ _ func213 (by kernel_rfl) (by kernel_rfl)) (fun x=> !aN x.s.pts y) l b cc U w1 hl hrw hb1 hb2 hb3 b1 AR).mono ?_;rintro e w2 ⟨rfl,hrw2,b2, -⟩;exact⟨some ⟨b,0,none⟩,cc,by rw[<- JD.out],by rw[<- JD.out];exact hrw2.at_,b2⟩
 clear AR hPU Nc hP hE JD h hp;go_wp2_with(first|(go_at_call 78;refine(DF _ _ ow1 b1).mono ?_;rintro e w2 ⟨oo,cc,rfl,h2,b2⟩)|(go_at_call 79;refine CL.mono ?_;rintro e w1 ⟨v1,rfl,ow1,b1⟩));go_ret;exact⟨oo,cc,rfl,h2,aA b0 b2⟩
def Mh {α:Type}(a b:α)(e:Ending):Prop:=(a=b/\e=.returned (.bool true))\/(a≠b/\e=.returned (.bool false))
def eqQ (a b:Qt):Bool:=((a.xn==b.xn && a.xd==b.xd) && (a.yn==b.yn && a.yd==b.yd))
theorem a2q (a:Qt):eqQ a a=true:=by simp[eqQ]
theorem a6l {a b:Qt}(h:a≠b):eqQ a b=false:=by
 cases a;cases b;unfold eqQ;rw[Bool.eq_false_iff];intro e;simp only[Bool.and_eq_true,beq_iff_eq] at e;obtain⟨⟨h1,h2⟩,h3,h4⟩:=e;subst h1 h2 h3 h4;exact h rfl
theorem a6m (a b:Qt)(w:ag):(binOp .neq 168 (mW a) (mW b)).run prog w=.ok (.bool (!eqQ a b)) w:=by
 simp[mW,eqQ,go_sem,underlying168,underlying123,underlying3]
 repeat' split
 all_goals simp_all
theorem a6n (a b:List Qt)(oa ob:Option Addr)(ca cb:Nat)(w:ag)(hla:a.length<=10000)(ha:fH w oa a)(hb:fH w ob b):
  au 214 #[.slice oa a.length ca,.slice ob b.length cb] w fun e W=>Mh a b e/\Below w.heap.size w W:=by
 by_cases hne:a.length=b.length
 ·have hnb:((a.length:Int) !=(b.length:Int))=false:=by rw[hne];simp
  have HNE:=aj hne;clear hne;go_enter func214,ntmps214;go_wp2_with fail
  go_loopw [13] (fun i wr=>∃k:Nat,k<=a.length/\i=aa k/\a.take k=b.take k/\Below w.heap.size w wr) (fun i _=>a.length-(intOf i).toNat)
  case atStart=>exact⟨0,aP _,rfl,rfl,aG _ _⟩
  case round=>
   obtain⟨k,hk,rfl,hrt,hB⟩:=hrel;by_cases hlt:k<a.length
   ·have hlt':(k:Int)<(a.length:Int):=by omega
    have aez:(k:Int)<(b.length:Int):=by have:=HNE.out;omega
    obtain⟨x,hx⟩:∃x,a[k]? =some x:=⟨_,dK hlt⟩;obtain⟨y,hy⟩:∃y,b[k]? =some y:=⟨_,dK (by have:=HNE.out;omega)⟩;obtain⟨b1,f1,rfl,c1⟩:=ha.below hB ai k x hx;obtain⟨b2,f2,rfl,c2⟩:=hb.below hB ai k y hy;have HX:Hid (a[k]? =some x/\b[k]? =some y):=⟨hx,hy⟩;clear hx hy;obtain⟨p0,p1,p2,p3, -⟩:=c1;obtain⟨q0,q1,q2,q3, -⟩:=c2;have NQ:∀w,(binOp .neq 168 (.agg #[aa x.xn,aa x.xd,aa x.yn,aa x.yd]) (.agg #[aa y.xn,aa y.xd,aa y.yn,aa y.yd])).run prog w=.ok (.bool (!eqQ x y)) w:=a6m x y;by_cases hxy:x=y
    ·subst hxy;rw[a2q] at NQ;go_upto_region 6 with fail;go_region
     all_goals
      go_wp2_with fail
      go_roundw
      case rel=>exact⟨k+1,by omega,by go_num,by rw[List.take_add_one,List.take_add_one,hrt,HX.out.1,HX.out.2],hB.drew⟩
      case measure=>simp[intOf];omega
    ·rw[a6l hxy] at NQ;have hno:a≠b:=fun h=>hxy (by
      have:=HX.out.1;rw[h,HX.out.2] at this;cases this;rfl)
     go_upto_region 6 with fail;go_region
     all_goals
      go_wp2_with fail;go_ret;exact⟨.inr ⟨hno,rfl⟩,hB.drew⟩
   ·obtain rfl:k=a.length:=by omega
    have hab:a=b:=by
     rw[List.take_length] at hrt;rw[HNE.out,List.take_length] at hrt;exact hrt
    go_wp2_with fail;go_ret;exact⟨.inl ⟨hab,rfl⟩,hB⟩
 ·have hno:a≠b:=fun h=>hne (by rw[h]);have hne':((a.length:Int)==(b.length:Int))=false:=by rw[beq_eq_false_iff_ne];omega
  have hnb:((a.length:Int) !=(b.length:Int))=true:=by rw[bne,hne'];rfl
  clear hne;go_enter func214,ntmps214;go_wp2_with fail;go_ret;exact⟨.inr ⟨hno,rfl⟩,aG _ _⟩
theorem Mi (x y:P5)(w:ag)(hl:x.s.pts.length<=10000)(hx:fH w x.o x.s.pts)(hy:fH w y.o y.s.pts):
  au 162 #[VV x,VV y] w fun e W=>Mh x.s y.s e/\Below w.heap.size w W:=by
 have b0:=bg w (.cells (xB x) 134);have b1:=bg (w.alloc (.cells (xB x) 134)) (.cells (xB y) 134);have bb:=aA b0 b1;have EQ:=a6n x.s.pts y.s.pts x.o y.o x.cap y.cap ((w.alloc (.cells (xB x) 134)).alloc (.cells (xB y) 134)) hl (hx.below bb ai) (hy.below bb ai);by_cases h1:x.s.fill=y.s.fill
 ·have e1:(x.s.fill.toList==y.s.fill.toList)=true:=by rw[h1];simp
  by_cases h2:x.s.rule=y.s.rule
  ·have e2:(x.s.rule.toList==y.s.rule.toList)=true:=by rw[h2];simp
   have EQ2:au 214 #[.slice x.o x.s.pts.length x.cap,.slice y.o y.s.pts.length y.cap] ((w.alloc (.cells (xB x) 134)).alloc (.cells (xB y) 134)) fun e W=>∃b,e=.returned (.bool b)/\Hid (Mh x.s y.s (.returned (.bool b))/\Below w.heap.size w W):=EQ.mono fun e W ⟨h3,h4⟩=>by
    rcases h3 with⟨h3,rfl⟩|⟨h3,rfl⟩
    ·refine⟨true,rfl,.inl ⟨?_,rfl⟩,aA bb h4⟩;cases hs:x.s with
     |mk a1 a2 a3=>
     cases ht:y.s with
     |mk b1 b2 b3=>
     rw[hs,ht] at h1 h2 h3;simp only at h1 h2 h3;rw[h1,h2,h3]
    ·exact⟨false,rfl,.inr ⟨fun e=>h3 (by rw[e]),rfl⟩,aA bb h4⟩
   clear EQ b0 b1 bb h1 h2 hx hy;go_enter func162,ntmps162;go_wp2_with(go_at_call 214;refine EQ2.mono ?_;rintro e w1 ⟨b,rfl,h⟩);go_ret;exact h.out
  ·have e2:(x.s.rule.toList==y.s.rule.toList)=false:=beq_eq_false_iff_ne.2 (fun h=>h2 (ba_eq h));have hn:x.s≠y.s:=fun h=>h2 (by rw[h]);clear EQ b0 b1 h1 h2 hx hy;go_enter func162,ntmps162;go_wp2_with fail;go_ret;exact⟨.inr ⟨hn,rfl⟩,bb⟩
 ·have e1:(x.s.fill.toList==y.s.fill.toList)=false:=beq_eq_false_iff_ne.2 (fun h=>h1 (ba_eq h));have hn:x.s≠y.s:=fun h=>h1 (by rw[h]);clear EQ b0 b1 h1 hx hy;go_enter func162,ntmps162;go_wp2_with fail;go_ret;exact⟨.inr ⟨hn,rfl⟩,bb⟩
theorem a6o (a b:List P5)(oa ob:Option Addr)(ca cb:Nat)(w:ag)(hla:a.length<=10000)(ha:iH w oa a)(hb:iH w ob b)(hpa:j5 w a)(hpb:j5 w b)(hpl:∀x∈a,x.s.pts.length<=10000):
  au 160 #[.slice oa a.length ca,.slice ob b.length cb,.func (.func 162) #[] #[]] w fun e W=>Mh (sP a) (sP b) e/\Below w.heap.size w W:=by
 by_cases hne:a.length=b.length
 ·have hnb:((a.length:Int) !=(b.length:Int))=false:=by rw[hne];simp
  have HNE:=aj hne;clear hne;go_enter func160,ntmps160;go_wp2_with fail
  go_loopw [17] (fun i wr=>∃k:Nat,k<=a.length/\i=aa k/\sP (a.take k)=sP (b.take k)/\Below w.heap.size w wr) (fun i _=>a.length-(intOf i).toNat)
  case atStart=>exact⟨0,aP _,rfl,rfl,aG _ _⟩
  case round=>
   obtain⟨k,hk,rfl,hrt,hB⟩:=hrel;by_cases hlt:k<a.length
   ·have hlt':(k:Int)<(a.length:Int):=by omega
    have aez:(k:Int)<(b.length:Int):=by have:=HNE.out;omega
    obtain⟨x,hx⟩:∃x,a[k]? =some x:=⟨_,dK hlt⟩;obtain⟨y,hy⟩:∃y,b[k]? =some y:=⟨_,dK (by have:=HNE.out;omega)⟩;obtain⟨b1,f1,rfl,p0,p1,p2,p3,p4⟩:=ha.below hB ai k x hx;obtain⟨b2,f2,rfl,cy⟩:=hb.below hB ai k y hy;have LA:∀V,Below wr.heap.size wr V->au 162 #[VV x,VV y] V fun e W=>Mh x.s y.s e/\Below V.heap.size V W:=fun V hV=>Mi x y V (hpl x (fV hx)) ((hpa x (fV hx)).below (aA hB hV) ai) ((hpb y (fV hy)).below (aA hB hV) ai);have LB:=LA ((wr.alloc (.cells (xB x) 134)).alloc (.cells (xB y) 134)) (aA (bg _ _) (bg _ _));have HX:Hid (a[k]? =some x/\b[k]? =some y):=⟨hx,hy⟩;obtain⟨q0,q1,q2,q3,q4⟩:=id cy;obtain⟨q0',q1',q2',q3',q4'⟩:=cy.below (bg wr (.cells (xB x) 134)) ai;clear hx hy LA;have bx:=aA (bg wr (.cells (xB x) 134)) (bg _ (.cells (xB y) 134));by_cases hxy:x.s=y.s
    ·have LB:=LB.mono (R':=fun e W=>e=.returned (.bool true)/\Hid (Below w.heap.size w W)) fun e W ⟨h1,h2⟩=>by
      rcases h1 with⟨-,h1⟩|⟨h1, -⟩
      ·exact⟨h1,aA hB (aA bx h2)⟩
      ·exact absurd hxy h1
     have HXY:=aj hxy;clear bx hxy;go_wp2_with(go_at_call 162;refine LB.mono ?_;rintro e w1 ⟨rfl,h1⟩)
     go_roundw
     case rel=>exact⟨k+1,by omega,by go_num,by rw[List.take_add_one,List.take_add_one,HX.out.1,HX.out.2,sP,sP,List.map_append,List.map_append,show List.map (·.s) (a.take k)=_ from hrt];simp[HXY.out],h1.out⟩
     case measure=>simp[intOf];omega
    ·have LB:=LB.mono (R':=fun e W=>e=.returned (.bool false)/\Hid (Below w.heap.size w W)) fun e W ⟨h1,h2⟩=>by
      rcases h1 with⟨h1, -⟩|⟨-,h1⟩
      ·exact absurd h1 hxy
      ·exact⟨h1,aA hB (aA bx h2)⟩
     have HN:Hid (sP a≠sP b):=(fun h=>hxy (by
      have h1:(sP a)[k]? =some x.s:=by rw[sP,List.getElem?_map,HX.out.1];rfl
      rw[h,sP,List.getElem?_map,HX.out.2] at h1;exact(dP h1).symm):sP a≠sP b)
     clear bx;go_wp2_with(go_at_call 162;refine LB.mono ?_;rintro e w1 ⟨rfl,h1⟩);go_ret;exact⟨.inr ⟨HN.out,rfl⟩,h1.out⟩
   ·obtain rfl:k=a.length:=by omega
    rw[List.take_length] at hrt;have hab:sP a=sP b:=by
     rw[hrt,HNE.out,List.take_length]
    clear hrt;go_wp2_with fail;go_ret;exact⟨.inl ⟨hab,rfl⟩,hB⟩
 ·have hno:sP a≠sP b:=fun h=>hne (by have:=congrArg List.length h;simpa[sP] using this);have hne':((a.length:Int)==(b.length:Int))=false:=by rw[beq_eq_false_iff_ne];omega
  have hnb:((a.length:Int) !=(b.length:Int))=true:=by rw[bne,hne'];rfl
  clear hne;go_enter func160,ntmps160;go_wp2_with fail;go_ret;exact⟨.inr ⟨hno,rfl⟩,aG _ _⟩
abbrev mM (df:Nat->Bool)(k:Nat):List Int:=((List.range k).filter df).map fun(y:Nat)=>(y:Int)
theorem UI {df:Nat->Bool}{k:Nat}(h:df k=true):mM df (k+1)=mM df k++[(k:Int)]:=by
 simp[mM,List.range_succ,h]
theorem YP {df:Nat->Bool}{k:Nat}(h:df k=false):mM df (k+1)=mM df k:=by
 simp[mM,List.range_succ,h]
theorem UJ (df:Nat->Bool)(k:Nat):(mM df k).length<=k:=by
 have:=List.length_filter_le df (List.range k);simpa[mM] using this
theorem Dl {w:ag}{l:List P5}(h:j5 w l)(p:P5->Bool):j5 w (l.filter p):=fun x hx=>h x (List.mem_filter.1 hx).1
theorem zX (aB aS aZ:Addr)(a b:List P5)(oa ob:Option Addr)(ca cb h:Nat)(df:Nat->Bool)(w:ag)(hla:a.length<=1000)(hlb:b.length<=1000)(ha:zO w oa ca a)(hb:zO w ob cb b)(hpa:j5 w a)(hpb:j5 w b)(hna:∀x∈a,x.s.pts.length<=1000)(hnb:∀x∈b,x.s.pts.length<=1000)(hE:E3 aB aS aZ w)(hh:h<=100)
  (hdf:∀y:Nat,df y=false↔sP (a.filter fun x=>aN x.s.pts y)=sP (b.filter fun x=>aN x.s.pts y)):
  au 106 #[.slice oa a.length ca,.slice ob b.length cb,aa h] w fun e W=>∃v,e=.returned v/\W.ownsRow w.heap.size 3 1 v (mM df h).length (aU (mM df h))/\Below w.heap.size w W:=by
 obtain⟨i0,hi,hz0,hz1,hz2⟩:=info_parts sI;go_enter func106,ntmps106;go_wp2_with fail
 go_loopw [7,10] (fun u i wr=>∃(k:Nat) (o:Option Addr) (n cp:Nat),k<=h/\u=.slice o n cp/\i=aa k/\n=(mM df k).length/\wr.ownsRow w.heap.size 3 1 (.slice o n cp) n (aU (mM df k))/\Below w.heap.size w wr) (fun _ i _=>h-(intOf i).toNat)
 case atStart=>exact⟨0,none,0,0,aP _,rfl,rfl,rfl,eH _ _ _ _,aG _ _⟩
 case round=>
  obtain⟨k,o,n,cp,hk,rfl,rfl,hn,hown,hB⟩:=hrel;have HN:=aj hn;have hnl:n<=k:=by rw[hn];exact UJ df k
  clear hn;by_cases hlt:k<h
  ·have hlt':(k:Int)<(h:Int):=by omega
   have RA:=xe aB aS aZ a oa ca (k:Int) wr hla (ha.below hB) (hpa.below hB ai) hna (hE.below hB ai);have RB:∀V,Below wr.heap.size wr V->_:=fun V hV=>xe aB aS aZ b ob cb (k:Int) V hlb (hb.below (aA hB hV)) (hpb.below (aA hB hV) ai) hnb (hE.below (aA hB hV) ai);have EF:∀(V:ag) o1 c1 o2 c2,Below wr.heap.size wr V->iH V o1 (a.filter fun x=>aN x.s.pts (k:Int))->iH V o2 (b.filter fun x=>aN x.s.pts (k:Int))->au 160 #[.slice o1 (a.filter fun x=>aN x.s.pts (k:Int)).length c1,.slice o2 (b.filter fun x=>aN x.s.pts (k:Int)).length c2,.func (.func 162) #[] #[]] V fun e W=>e=.returned (.bool (!df k))/\Below V.heap.size V W:=fun V o1 c1 o2 c2 hV h1 h2=>(a6o _ _ o1 o2 c1 c2 V (aJ (List.length_filter_le _ _) (by omega)) h1 h2 (Dl (hpa.below (aA hB hV) ai) _) (Dl (hpb.below (aA hB hV) ai) _) (fun x hx=>by have:=hna x (List.mem_filter.1 hx).1;omega)).mono fun e W ⟨h3,h4⟩=>by
     refine⟨?_,h4⟩;rcases h3 with⟨h3,h5⟩|⟨h3,h5⟩
     ·rw[(hdf k).2 h3];exact h5
     ·have:df k=true:=by
       cases hd:df k with
       |true=>rfl
       |false=>exact absurd ((hdf k).1 hd) h3
      rw[this];exact h5
   generalize (a.filter fun x=>aN x.s.pts (k:Int))=fa at RA EF;generalize (b.filter fun x=>aN x.s.pts (k:Int))=fb at RB EF;cases hd:df k with
   |false=>
    rw[hd] at EF;have HR:=YP hd;have HRR:=aj HR;clear HR;go_wp2_with(first|(go_at_call 160;refine(EF _ _ _ _ _ (aA b1 b2) h1' h2).mono ?_;rintro e w3 ⟨rfl,b3⟩)|(have hu:=h1;go_at_call 161;refine(RB _ b1).mono ?_;rintro e w2 ⟨o2,c2,rfl,h2,b2⟩;have h1':=h1.below b2 ai)|(go_at_call 161;refine RA.mono ?_;rintro e w1 ⟨o1,c1,rfl,h1,b1⟩))
    go_roundw
    case rel=>
     have bb:=aA b1 (aA b2 b3);exact⟨k+1,o,n,cp,by omega,rfl,by go_num,by rw[HRR.out];exact HN.out,by rw[HRR.out];exact aQ hown bb,aA hB bb⟩
    case measure=>simp[intOf];omega
   |true=>
    rw[hd] at EF;have HRR:Hid (mM df (k+1)=mM df k++[(k:Int)]):=UI hd;go_upto_region 6 with(first|(go_at_call 160;refine(EF _ _ _ _ _ (aA b1 b2) h1' h2).mono ?_;rintro e w3 ⟨rfl,b3⟩)|(have hu:=h1;go_at_call 161;refine(RB _ b1).mono ?_;rintro e w2 ⟨o2,c2,rfl,h2,b2⟩;have h1':=h1.below b2 ai)|(go_at_call 161;refine RA.mono ?_;rintro e w1 ⟨o1,c1,rfl,h1,b1⟩));have bb:=aA b1 (aA b2 b3);have zT:=World.ownsRow.alloc (aQ hown bb) (.cells #[aa k] 3);have H0:=dW w3 (.cells #[aa (k:Int)] 3);have hs3:=bb.size;have hsB:=hB.size;go_wp2_with(at_builtin;refine wpList_append_own _ rfl _ _ 22 rfl w.heap.size 3 i0 (aa 0) 1 8 underlying22 hi hz0 hz1 hz2 rfl (by decide) _ _ _ rfl zT ⟨w3.heap.size,0,none⟩ 1 1 [aa (k:Int)] rfl rfl (World.news_of_block H0) (fun u hu=>by simp at hu;subst hu;rfl) (by simp only[maxLen];omega) (by omega) (by simp;omega) ?_;intro v7 w7 kN jS _;obtain⟨o7,c7,rfl⟩:=aM kN)
    go_roundw
    case rel=>
     have hlen:(mM df (k+1)).length=n+1:=by rw[HRR.out,List.length_append,HN.out];rfl
     refine⟨k+1,o7,_,c7,by omega,rfl,by go_num,by rw[hlen],?_,?_⟩
     ·rw[HRR.out,aU,List.map_append];exact kN
     ·exact((aA hB bb).alloc (by omega) _).grown jS (by simp;omega) (fun j hj=>(hown.lt j hj).1)
    case measure=>simp[intOf];omega
  ·obtain rfl:k=h:=by omega
   go_wp2_with fail;go_ret;exact⟨_,rfl,by rw[<- HN.out];exact hown,hB⟩
end
end Go.Proofs.YtecneflbncjhpaaGreatDoor

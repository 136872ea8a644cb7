/-
  Parts of the proof.
-/
import Derived.Test.YtjfiehbcamfdfaaGreatDoorQy29
namespace Go.Proofs.YtjfiehbcamfdfaaGreatDoor
open Go.Proofs.Tryz
section
open Go.RowKit
set_option maxHeartbeats 4000000
set_option maxRecDepth 20000
theorem Dg (aB aS aZ:Addr)(x:P5)(y:Int)(By:Nat)(w:World)(hl:x.s.pts.length<=1000)(h:dM w x.o x.s.pts)(hE:E3 aB aS aZ w)(hy:w.cell? (ag By 0)=some (aa y)):
  ak 113 #[TV x,aj By] w fun e W=>e=.returned (.bool (!aC x.s.pts y))/\Below w.heap.size w W:=by
 have C0:=La.new w x 138;have b0:=aL w (.cells (wF x) 138);have RE:=xM aB aS aZ x y (w.alloc (.cells (wF x) 138)) hl (h.below b0 eU) (hE.below b0 eU);have hy1:=(b0.cell (ay hy)).trans hy;go_enter func113,ntmps113;go_wp2_with(go_at_call 87;refine RE.mono ?_;rintro e w1 ⟨rfl,b1⟩);go_ret;exact⟨rfl,au b0 b1⟩
theorem vP (aB aS aZ:Addr)(l:List P5)(o:Option Addr)(cap:Nat)(y:Int)(w:World)(hl:l.length<=1000)(h:yF w o cap l)(hP:iC w l)(hp:∀x∈l,x.s.pts.length<=1000)(hE:E3 aB aS aZ w):
  ak 63 #[.slice o l.length cap,aa y] w fun e W=>∃oo cc,e=.returned (.slice oo (l.filter fun x=>aC x.s.pts y).length cc)/\gG W oo (l.filter fun x=>aC x.s.pts y)/\Below w.heap.size w W:=by
 obtain⟨lr,hlr⟩:∃lr,(l.filter fun x=>aC x.s.pts y)=lr:=⟨_,rfl⟩;rw[hlr];have JC:Hid ((l.filter fun x=> !!aC x.s.pts y)=lr):=(by simpa using hlr:(l.filter fun x=> !!aC x.s.pts y)=lr);clear hlr;have b0:=aL w (.cells #[aa y] 3);have hcy:=(gY w (aa y) 3).1;go_enter func63,ntmps63;go_upto_region 1 with fail;obtain⟨U,hU⟩:∃U,w.alloc (.cells #[aa y] 3)=U:=⟨_,rfl⟩;rw[hU] at b0 hcy⊢;clear hU;have YQ:=hP.below b0 eU;have Hg:=hE.below b0 eU;have CL:=Hz U o cap l (h.below b0) hl;have AR:a03 U.heap.size 113 w.heap.size U l (fun x=> !aC x.s.pts y):=fun x hx V hV=>Dg aB aS aZ x y w.heap.size V (hp x hx) ((YQ x hx).below hV eU) (Hg.below hV eU) ((hV.cell (ay hcy)).trans hcy);have DF:∀v1 w1,Own5 w1 U.heap.size v1 l->Below U.heap.size U w1->ak 84 #[v1,rfV 113 w.heap.size] w1 fun e w2=>∃oo cc,e=.returned (.slice oo lr.length cc)/\gG w2 oo lr/\Below U.heap.size U w2:=fun v1 w1 Rh b1=>by
  rcases Rh.rw with⟨rfl,rfl⟩|⟨b,cc,rfl,hb1,hb2,hb3,hrw⟩
  ·refine(Ey 113 w.heap.size (Ew _ _ func113 (by kernel_rfl) (by kernel_rfl)) w1).mono ?_;rintro e w2 ⟨rfl,b2⟩;exact⟨none,0,by rw[<- JC.out];rfl,fun i x hx=>by rw[<- JC.out] at hx;simp at hx,au b1 b2⟩
  ·refine(Ex U.heap.size 113 w.heap.size (Ew _ _ func113 (by kernel_rfl) (by kernel_rfl)) (fun x=> !aC x.s.pts y) l b cc U w1 hl hrw hb1 hb2 hb3 b1 AR).mono ?_;rintro e w2 ⟨rfl,hrw2,b2, -⟩;exact⟨some ⟨b,0,none⟩,cc,by rw[<- JC.out],by rw[<- JC.out];exact hrw2.at_,b2⟩
 clear AR YQ Hg hP hE JC h hp;go_wp2_with(first|(go_at_call 84;refine(DF _ _ Rh b1).mono ?_;rintro e w2 ⟨oo,cc,rfl,h2,b2⟩)|(go_at_call 85;refine CL.mono ?_;rintro e w1 ⟨v1,rfl,Rh,b1⟩));go_ret;exact⟨oo,cc,rfl,h2,au b0 b2⟩
end
section
open Go.RowKit
set_option maxHeartbeats 4000000
set_option maxRecDepth 20000
def JV {α:Type}(a b:α)(e:Ending):Prop:=(a=b/\e=.returned (.bool true))\/(a≠b/\e=.returned (.bool false))
def eqQ (a b:Qt):Bool:=((a.xn==b.xn && a.xd==b.xd) && (a.yn==b.yn && a.yd==b.yd))
theorem a0n (a:Qt):eqQ a a=true:=by simp[eqQ]
theorem a3W {a b:Qt}(h:a≠b):eqQ a b=false:=by
 cases a;cases b;unfold eqQ;rw[Bool.eq_false_iff];intro e;simp only[Bool.and_eq_true,beq_iff_eq] at e;obtain⟨⟨h1,h2⟩,h3,h4⟩:=e;subst h1 h2 h3 h4;exact h rfl
theorem a3X (a b:Qt)(w:World):(binOp .neq 177 (lS a) (lS b)).run prog w=.ok (.bool (!eqQ a b)) w:=by
 simp[lS,eqQ,go_sem,underlying177,underlying127,underlying3]
 repeat' split
 all_goals simp_all
theorem a3Y (a b:List Qt)(oa ob:Option Addr)(ca cb:Nat)(w:World)(hla:a.length<=10000)(ha:dM w oa a)(hb:dM w ob b):
  ak 114 #[.slice oa a.length ca,.slice ob b.length cb] w fun e W=>JV a b e/\Below w.heap.size w W:=by
 by_cases hne:a.length=b.length
 ·have hnb:((a.length:Int) !=(b.length:Int))=false:=by rw[hne];simp
  have Rv:Hid (a.length=b.length):=hne;clear hne;go_enter func114,ntmps114;go_wp2_with fail
  go_loopw [13] (fun i wr=>∃k:Nat,k<=a.length/\i=aa k/\a.take k=b.take k/\Below w.heap.size w wr) (fun i _=>a.length-(intOf i).toNat)
  case atStart=>exact⟨0,Nat.zero_le _,rfl,rfl,Below.refl _ _⟩
  case round=>
   obtain⟨k,hk,rfl,hrt,hB⟩:=hrel;by_cases hlt:k<a.length
   ·have hlt':(k:Int)<(a.length:Int):=by omega
    have a8j:(k:Int)<(b.length:Int):=by have:=Rv.out;omega
    obtain⟨x,hx⟩:∃x,a[k]? =some x:=⟨_,List.getElem?_eq_getElem hlt⟩;obtain⟨y,hy⟩:∃y,b[k]? =some y:=⟨_,List.getElem?_eq_getElem (by have:=Rv.out;omega)⟩;obtain⟨b1,f1,rfl,c1⟩:=ha.below hB eU k x hx;obtain⟨b2,f2,rfl,c2⟩:=hb.below hB eU k y hy;have HX:Hid (a[k]? =some x/\b[k]? =some y):=⟨hx,hy⟩;clear hx hy;obtain⟨p0,p1,p2,p3, -⟩:=c1;obtain⟨q0,q1,q2,q3, -⟩:=c2;have NQ:∀w,(binOp .neq 177 (.agg #[aa x.xn,aa x.xd,aa x.yn,aa x.yd]) (.agg #[aa y.xn,aa y.xd,aa y.yn,aa y.yd])).run prog w=.ok (.bool (!eqQ x y)) w:=a3X x y;by_cases hxy:x=y
    ·subst hxy;rw[a0n] at NQ;go_upto_region 6 with fail;go_region
     all_goals
      go_wp2_with fail
      go_roundw
      case rel=>exact⟨k+1,by omega,by go_num,by rw[List.take_add_one,List.take_add_one,hrt,HX.out.1,HX.out.2],hB.drew⟩
      case measure=>simp[intOf];omega
    ·rw[a3W hxy] at NQ;have hno:a≠b:=fun h=>hxy (by
      have:=HX.out.1;rw[h,HX.out.2] at this;cases this;rfl)
     go_upto_region 6 with fail;go_region
     all_goals
      go_wp2_with fail;go_ret;exact⟨.inr ⟨hno,rfl⟩,hB.drew⟩
   ·obtain rfl:k=a.length:=by omega
    have hab:a=b:=by
     rw[List.take_length] at hrt;rw[Rv.out,List.take_length] at hrt;exact hrt
    go_wp2_with fail;go_ret;exact⟨.inl ⟨hab,rfl⟩,hB⟩
 ·have hno:a≠b:=fun h=>hne (by rw[h]);have hne':((a.length:Int)==(b.length:Int))=false:=by rw[beq_eq_false_iff_ne];omega
  have hnb:((a.length:Int) !=(b.length:Int))=true:=by rw[bne,hne'];rfl
  clear hne;go_enter func114,ntmps114;go_wp2_with fail;go_ret;exact⟨.inr ⟨hno,rfl⟩,Below.refl _ _⟩
theorem JW (x y:P5)(w:World)(hl:x.s.pts.length<=10000)(hx:dM w x.o x.s.pts)(hy:dM w y.o y.s.pts):
  ak 64 #[TV x,TV y] w fun e W=>JV x.s y.s e/\Below w.heap.size w W:=by
 have b0:=aL w (.cells (wF x) 138);have b1:=aL (w.alloc (.cells (wF x) 138)) (.cells (wF y) 138);have bb:=au b0 b1;have EQ:=a3Y x.s.pts y.s.pts x.o y.o x.cap y.cap ((w.alloc (.cells (wF x) 138)).alloc (.cells (wF y) 138)) hl (hx.below bb eU) (hy.below bb eU);by_cases h1:x.s.fill=y.s.fill
 ·have e1:(x.s.fill.toList==y.s.fill.toList)=true:=by rw[h1];simp
  by_cases h2:x.s.rule=y.s.rule
  ·have e2:(x.s.rule.toList==y.s.rule.toList)=true:=by rw[h2];simp
   have EQ2:ak 114 #[.slice x.o x.s.pts.length x.cap,.slice y.o y.s.pts.length y.cap] ((w.alloc (.cells (wF x) 138)).alloc (.cells (wF y) 138)) fun e W=>∃b,e=.returned (.bool b)/\Hid (JV x.s y.s (.returned (.bool b))/\Below w.heap.size w W):=EQ.mono fun e W ⟨h3,h4⟩=>by
    rcases h3 with⟨h3,rfl⟩|⟨h3,rfl⟩
    ·refine⟨true,rfl,.inl ⟨?_,rfl⟩,au bb h4⟩;cases hs:x.s with
     |mk a1 a2 a3=>
     cases ht:y.s with
     |mk b1 b2 b3=>
     rw[hs,ht] at h1 h2 h3;simp only at h1 h2 h3;rw[h1,h2,h3]
    ·exact⟨false,rfl,.inr ⟨fun e=>h3 (by rw[e]),rfl⟩,au bb h4⟩
   clear EQ b0 b1 bb h1 h2 hx hy;go_enter func64,ntmps64;go_wp2_with(go_at_call 114;refine EQ2.mono ?_;rintro e w1 ⟨b,rfl,h⟩);go_ret;exact h.out
  ·have e2:(x.s.rule.toList==y.s.rule.toList)=false:=beq_eq_false_iff_ne.2 (fun h=>h2 (ba_eq h));have hn:x.s≠y.s:=fun h=>h2 (by rw[h]);clear EQ b0 b1 h1 h2 hx hy;go_enter func64,ntmps64;go_wp2_with fail;go_ret;exact⟨.inr ⟨hn,rfl⟩,bb⟩
 ·have e1:(x.s.fill.toList==y.s.fill.toList)=false:=beq_eq_false_iff_ne.2 (fun h=>h1 (ba_eq h));have hn:x.s≠y.s:=fun h=>h1 (by rw[h]);clear EQ b0 b1 h1 hx hy;go_enter func64,ntmps64;go_wp2_with fail;go_ret;exact⟨.inr ⟨hn,rfl⟩,bb⟩
theorem a3Z (a b:List P5)(oa ob:Option Addr)(ca cb:Nat)(w:World)(hla:a.length<=10000)(ha:gG w oa a)(hb:gG w ob b)(hpa:iC w a)(hpb:iC w b)(hpl:∀x∈a,x.s.pts.length<=10000):
  ak 62 #[.slice oa a.length ca,.slice ob b.length cb,.func (.func 64) #[] #[]] w fun e W=>JV (sP a) (sP b) e/\Below w.heap.size w W:=by
 by_cases hne:a.length=b.length
 ·have hnb:((a.length:Int) !=(b.length:Int))=false:=by rw[hne];simp
  have Rv:Hid (a.length=b.length):=hne;clear hne;go_enter func62,ntmps62;go_wp2_with fail
  go_loopw [17] (fun i wr=>∃k:Nat,k<=a.length/\i=aa k/\sP (a.take k)=sP (b.take k)/\Below w.heap.size w wr) (fun i _=>a.length-(intOf i).toNat)
  case atStart=>exact⟨0,Nat.zero_le _,rfl,rfl,Below.refl _ _⟩
  case round=>
   obtain⟨k,hk,rfl,hrt,hB⟩:=hrel;by_cases hlt:k<a.length
   ·have hlt':(k:Int)<(a.length:Int):=by omega
    have a8j:(k:Int)<(b.length:Int):=by have:=Rv.out;omega
    obtain⟨x,hx⟩:∃x,a[k]? =some x:=⟨_,List.getElem?_eq_getElem hlt⟩;obtain⟨y,hy⟩:∃y,b[k]? =some y:=⟨_,List.getElem?_eq_getElem (by have:=Rv.out;omega)⟩;obtain⟨b1,f1,rfl,p0,p1,p2,p3,p4⟩:=ha.below hB eU k x hx;obtain⟨b2,f2,rfl,cy⟩:=hb.below hB eU k y hy;have LA:∀V,Below wr.heap.size wr V->ak 64 #[TV x,TV y] V fun e W=>JV x.s y.s e/\Below V.heap.size V W:=fun V hV=>JW x y V (hpl x (List.mem_of_getElem? hx)) ((hpa x (List.mem_of_getElem? hx)).below (au hB hV) eU) ((hpb y (List.mem_of_getElem? hy)).below (au hB hV) eU);have LB:=LA ((wr.alloc (.cells (wF x) 138)).alloc (.cells (wF y) 138)) (au (aL _ _) (aL _ _));have HX:Hid (a[k]? =some x/\b[k]? =some y):=⟨hx,hy⟩;obtain⟨q0,q1,q2,q3,q4⟩:=id cy;obtain⟨q0',q1',q2',q3',q4'⟩:=cy.below (aL wr (.cells (wF x) 138)) eU;clear hx hy LA;have bx:=au (aL wr (.cells (wF x) 138)) (aL _ (.cells (wF y) 138));by_cases hxy:x.s=y.s
    ·have LB:=LB.mono (R':=fun e W=>e=.returned (.bool true)/\Hid (Below w.heap.size w W)) fun e W ⟨h1,h2⟩=>by
      rcases h1 with⟨-,h1⟩|⟨h1, -⟩
      ·exact⟨h1,au hB (au bx h2)⟩
      ·exact absurd hxy h1
     have HXY:Hid (x.s=y.s):=hxy;clear bx hxy;go_wp2_with(go_at_call 64;refine LB.mono ?_;rintro e w1 ⟨rfl,h1⟩)
     go_roundw
     case rel=>exact⟨k+1,by omega,by go_num,by rw[List.take_add_one,List.take_add_one,HX.out.1,HX.out.2,sP,sP,List.map_append,List.map_append,show List.map (·.s) (a.take k)=_ from hrt];simp[HXY.out],h1.out⟩
     case measure=>simp[intOf];omega
    ·have LB:=LB.mono (R':=fun e W=>e=.returned (.bool false)/\Hid (Below w.heap.size w W)) fun e W ⟨h1,h2⟩=>by
      rcases h1 with⟨h1, -⟩|⟨-,h1⟩
      ·exact absurd h1 hxy
      ·exact⟨h1,au hB (au bx h2)⟩
     have HN:Hid (sP a≠sP b):=(fun h=>hxy (by
      have h1:(sP a)[k]? =some x.s:=by rw[sP,List.getElem?_map,HX.out.1];rfl
      rw[h,sP,List.getElem?_map,HX.out.2] at h1;exact(Option.some.inj h1).symm):sP a≠sP b)
     clear bx;go_wp2_with(go_at_call 64;refine LB.mono ?_;rintro e w1 ⟨rfl,h1⟩);go_ret;exact⟨.inr ⟨HN.out,rfl⟩,h1.out⟩
   ·obtain rfl:k=a.length:=by omega
    rw[List.take_length] at hrt;have hab:sP a=sP b:=by
     rw[hrt,Rv.out,List.take_length]
    clear hrt;go_wp2_with fail;go_ret;exact⟨.inl ⟨hab,rfl⟩,hB⟩
 ·have hno:sP a≠sP b:=fun h=>hne (by have:=congrArg List.length h;simpa[sP] using this);have hne':((a.length:Int)==(b.length:Int))=false:=by rw[beq_eq_false_iff_ne];omega
  have hnb:((a.length:Int) !=(b.length:Int))=true:=by rw[bne,hne'];rfl
  clear hne;go_enter func62,ntmps62;go_wp2_with fail;go_ret;exact⟨.inr ⟨hno,rfl⟩,Below.refl _ _⟩
end
section
open Go.RowKit
set_option maxHeartbeats 4000000
set_option maxRecDepth 20000
abbrev jr (df:Nat->Bool)(k:Nat):List Int:=((List.range k).filter df).map fun(y:Nat)=>(y:Int)
theorem RJ {df:Nat->Bool}{k:Nat}(h:df k=true):jr df (k+1)=jr df k++[(k:Int)]:=by
 simp[jr,List.range_succ,h]
theorem WM {df:Nat->Bool}{k:Nat}(h:df k=false):jr df (k+1)=jr df k:=by
 simp[jr,List.range_succ,h]
theorem RN (df:Nat->Bool)(k:Nat):(jr df k).length<=k:=by
 have:=List.length_filter_le df (List.range k);simpa[jr] using this
theorem BJ {w:World}{l:List P5}(h:iC w l)(p:P5->Bool):iC w (l.filter p):=fun x hx=>h x (List.mem_filter.1 hx).1
theorem yN (aB aS aZ:Addr)(a b:List P5)(oa ob:Option Addr)(ca cb h:Nat)(df:Nat->Bool)(w:World)(hla:a.length<=1000)(hlb:b.length<=1000)(ha:yF w oa ca a)(hb:yF w ob cb b)(hpa:iC w a)(hpb:iC w b)(hna:∀x∈a,x.s.pts.length<=1000)(hnb:∀x∈b,x.s.pts.length<=1000)(hE:E3 aB aS aZ w)(hh:h<=100)
  (hdf:∀y:Nat,df y=false↔sP (a.filter fun x=>aC x.s.pts y)=sP (b.filter fun x=>aC x.s.pts y)):
  ak 31 #[.slice oa a.length ca,.slice ob b.length cb,aa h] w fun e W=>∃v,e=.returned v/\W.ownsRow w.heap.size 3 1 v (jr df h).length (bY (jr df h))/\Below w.heap.size w W:=by
 obtain⟨i0,hi,hz0,hz1,hz2⟩:=info_parts yX;go_enter func31,ntmps31;go_wp2_with fail
 go_loopw [7,10] (fun u i wr=>∃(k:Nat) (o:Option Addr) (n cp:Nat),k<=h/\u=.slice o n cp/\i=aa k/\n=(jr df k).length/\wr.ownsRow w.heap.size 3 1 (.slice o n cp) n (bY (jr df k))/\Below w.heap.size w wr) (fun _ i _=>h-(intOf i).toNat)
 case atStart=>exact⟨0,none,0,0,Nat.zero_le _,rfl,rfl,rfl,World.ownsRow_nil _ _ _ _,Below.refl _ _⟩
 case round=>
  obtain⟨k,o,n,cp,hk,rfl,rfl,hn,hown,hB⟩:=hrel;have HN:Hid (n=(jr df k).length):=hn;have hnl:n<=k:=by rw[hn];exact RN df k
  clear hn;by_cases hlt:k<h
  ·have hlt':(k:Int)<(h:Int):=by omega
   have RA:=vP aB aS aZ a oa ca (k:Int) wr hla (ha.below hB) (hpa.below hB eU) hna (hE.below hB eU);have RB:∀V,Below wr.heap.size wr V->_:=fun V hV=>vP aB aS aZ b ob cb (k:Int) V hlb (hb.below (au hB hV)) (hpb.below (au hB hV) eU) hnb (hE.below (au hB hV) eU);have EF:∀(V:World) o1 c1 o2 c2,Below wr.heap.size wr V->gG V o1 (a.filter fun x=>aC x.s.pts (k:Int))->gG V o2 (b.filter fun x=>aC x.s.pts (k:Int))->ak 62 #[.slice o1 (a.filter fun x=>aC x.s.pts (k:Int)).length c1,.slice o2 (b.filter fun x=>aC x.s.pts (k:Int)).length c2,.func (.func 64) #[] #[]] V fun e W=>e=.returned (.bool (!df k))/\Below V.heap.size V W:=fun V o1 c1 o2 c2 hV h1 h2=>(a3Z _ _ o1 o2 c1 c2 V (Nat.le_trans (List.length_filter_le _ _) (by omega)) h1 h2 (BJ (hpa.below (au hB hV) eU) _) (BJ (hpb.below (au hB hV) eU) _) (fun x hx=>by have:=hna x (List.mem_filter.1 hx).1;omega)).mono fun e W ⟨h3,h4⟩=>by
     refine⟨?_,h4⟩;rcases h3 with⟨h3,h5⟩|⟨h3,h5⟩
     ·rw[(hdf k).2 h3];exact h5
     ·have:df k=true:=by
       cases hd:df k with
       |true=>rfl
       |false=>exact absurd ((hdf k).1 hd) h3
      rw[this];exact h5
   generalize (a.filter fun x=>aC x.s.pts (k:Int))=fa at RA EF;generalize (b.filter fun x=>aC x.s.pts (k:Int))=fb at RB EF;cases hd:df k with
   |false=>
    rw[hd] at EF;have HR:=WM hd;have HRR:Hid (jr df (k+1)=jr df k):=HR;clear HR;go_wp2_with(first|(go_at_call 62;refine(EF _ _ _ _ _ (au b1 b2) h1' h2).mono ?_;rintro e w3 ⟨rfl,b3⟩)|(have hu:=h1;go_at_call 63;refine(RB _ b1).mono ?_;rintro e w2 ⟨o2,c2,rfl,h2,b2⟩;have h1':=h1.below b2 eU)|(go_at_call 63;refine RA.mono ?_;rintro e w1 ⟨o1,c1,rfl,h1,b1⟩))
    go_roundw
    case rel=>
     have bb:=au b1 (au b2 b3);exact⟨k+1,o,n,cp,by omega,rfl,by go_num,by rw[HRR.out];exact HN.out,by rw[HRR.out];exact aK hown bb,au hB bb⟩
    case measure=>simp[intOf];omega
   |true=>
    rw[hd] at EF;have HRR:Hid (jr df (k+1)=jr df k++[(k:Int)]):=RJ hd;go_upto_region 6 with(first|(go_at_call 62;refine(EF _ _ _ _ _ (au b1 b2) h1' h2).mono ?_;rintro e w3 ⟨rfl,b3⟩)|(have hu:=h1;go_at_call 63;refine(RB _ b1).mono ?_;rintro e w2 ⟨o2,c2,rfl,h2,b2⟩;have h1':=h1.below b2 eU)|(go_at_call 63;refine RA.mono ?_;rintro e w1 ⟨o1,c1,rfl,h1,b1⟩));have bb:=au b1 (au b2 b3);have yK:=World.ownsRow.alloc (aK hown bb) (.cells #[aa k] 3);have H0:=World.alloc_heap_new w3 (.cells #[aa (k:Int)] 3);have hs3:=bb.size;have hsB:=hB.size;go_wp2_with(at_builtin;refine wpList_append_own _ rfl _ _ 42 rfl w.heap.size 3 i0 (aa 0) 1 8 underlying42 hi hz0 hz1 hz2 rfl (by decide) _ _ _ rfl yK ⟨w3.heap.size,0,none⟩ 1 1 [aa (k:Int)] rfl rfl (World.news_of_block H0) (fun u hu=>by simp at hu;subst hu;rfl) (by simp only[maxLen];omega) (by omega) (by simp;omega) ?_;intro v7 w7 jQ lU _;obtain⟨o7,c7,rfl⟩:=aI jQ)
    go_roundw
    case rel=>
     have hlen:(jr df (k+1)).length=n+1:=by rw[HRR.out,List.length_append,HN.out];rfl
     refine⟨k+1,o7,_,c7,by omega,rfl,by go_num,by rw[hlen],?_,?_⟩
     ·rw[HRR.out,bY,List.map_append];exact jQ
     ·exact((au hB bb).alloc (by omega) _).grown lU (by simp;omega) (fun j hj=>(hown.lt j hj).1)
    case measure=>simp[intOf];omega
  ·obtain rfl:k=h:=by omega
   go_wp2_with fail;go_ret;exact⟨_,rfl,by rw[<- HN.out];exact hown,hB⟩
end
end Go.Proofs.YtjfiehbcamfdfaaGreatDoor

/- Parts of the proof. -/
import Derived.Test.YtjfiehbcamfdfaaGreatDoorQz34
namespace Go.Proofs.YtjfiehbcamfdfaaGreatDoor
open Go.Proofs.Tryz
set_option maxHeartbeats 4000000
section
open Go.RowKit
set_option maxRecDepth 20000
theorem Qx {V w1:ag}{l:List Pc}{g cp w h:Nat}{t:List UInt8}(ow:w1.ownsRow V.heap.size 9 1 (.slice (some ⟨g,0,none⟩) (w*h) cp) (w*h) ((jD aI (l.map fK) w h).map .string))(hw1:1<=w)(hw:w<=40)(hh:h<=40)(ht:Ct (jD aI (l.map fK) w h) w h=t):
  ax 21 #[.agg #[aa w,aa h,.slice (some ⟨g,0,none⟩) (w*h) cp]] w1 fun e w'=>e=.returned (.string ⟨t.toArray⟩)/\Below w1.heap.size w1 w':=by
 rw[<- ht];exact Le _ w h g cp _ w1 hw1 hw hh ow
theorem Oe (E:Nat->Addr)(W:ag)(hE:LE E W):
  ax 6 #[] W fun e w'=>e=.returned (.bool true)/\Below W.heap.size W w':=by
 have RD:ax 20 #[.string ⟨#[60,98,111,120,32,119,61,34,50,34,32,104,61,34,49,34,32,102,105,108,108,61,34,97,34,47,62]⟩] W fun e w'=>∃(sa:aD) (oa:Option Addr) (na ka:Nat) (xk:Option Addr) (na' ka':Nat),e=.returned (.tuple #[.agg #[.string sa,.slice oa na ka,.slice xk na' ka'],.nilIface])/\jX w' (.string sa) (.slice oa na ka) (.slice xk na' ka') Ob/\Below W.heap.size W w':=(Oa E 10 lvS _ _ [47,62] Ob W hE.me (by decide) rfl rfl (by rw[a2r];simp) a97 rfl (fun x hx=>by
  rw[bq];simp only[List.mem_cons,List.not_mem_nil,or_false] at hx;rcases hx with rfl|rfl|rfl<;>simp) rfl (by rw[a2r];rfl) a2s).mono fun e w' ⟨h1,c0,c1,c2,h4,h5⟩=>by
  have h6:=h5;unfold Ob jX at h6;obtain⟨k1, -,⟨o,cap,k2, -⟩,o',cap',k3, -⟩:=h6;subst k1 k2 k3;exact⟨_,_,_,_,_,_,_,h4,h5,h1⟩
 have NW:∀V c0 c1 c2,Below W.heap.size W V->jX V c0 c1 c2 Ob->ax 9 #[.agg #[c0,c1,c2],.string ⟨#[]⟩,aa 3,aa 2] V fun e w'=>∃LB DB,e=.returned (.tuple #[ay LB,.nilIface])/\H6 w' LB V.heap.size DB (jV Ob) 1 1 (Um Ob) [] [lvP] 3 2/\Below V.heap.size V w':=fun V c0 c1 c2 hV hn=>(a2t E Ob c0 c1 c2 V 3 2 (hE.below hV) hn (by decide) (by decide) (by decide) (by decide) (by decide)).mono fun e w' ⟨h1,h2⟩=>by
  rcases h2 with⟨h2, -⟩|⟨LB,DB,l, -,h3,h4,h5⟩
  ·exact absurd ⟨a2s,[lvP],F9,fun x hx=>by rw[List.mem_singleton.1 hx];exact a98⟩ h2
  ·rw[F9] at h3;cases h3;exact⟨LB,DB,h4,h5,h1⟩
 have DO:∀V LB B DB,Below W.heap.size W V->W.heap.size<=B->H6 V LB B DB (jV Ob) 1 1 (Um Ob) [] [lvP] 3 2->ax 11 #[ay LB,.agg #[.string ⟨#[115,101,116]⟩,aa 0,aa 0,aa 0,.string ⟨#[115,104,111,119]⟩,.string ⟨#[110,111]⟩]] V fun e w'=>∃o cp,e=.returned (.tuple #[.slice o 1 cp,.nilIface])/\w'.ownsRow V.heap.size 3 1 (.slice o 1 cp) 1 [aa 0]/\H6 w' LB B DB lvD 1 1 (Um Ob) [] [] 3 2/\Below W.heap.size W w':=fun V LB B DB hV hB hl=>(adK (hE.below hV) hl (by decide) (by decide) (by decide) (by decide) lvX (by decide) (qN (jV Ob) 0 [115,104,111,119] [110,111]) (fun N X kJ lW pM p1 h1 h2 h3 h4=>rG ((hE.below hV).below h2) h4 h3 0 0 0 (by decide) _ _ (by decide) (by decide))).mono fun e w' hr=>by
  rcases hr with⟨h1, -⟩|⟨M2,l2,o,n,cp,h1,h2,h3,h4,h5,h6⟩
  ·exfalso;rcases h1 with⟨k,h1⟩|⟨M2,h1,h2⟩
   ·rw[Oc] at h1;cases h1
   ·rw[Oc] at h1;cases h1;exact h2 ⟨[],Cw,fun x hx=>by cases hx⟩
  ·rw[Oc] at h1;cases h1;rw[Cw] at h2;cases h2;rw[a4V] at h4;obtain⟨k1,k2,k3⟩:=hl.base;obtain⟨o',cp',hv, -⟩:=bS h4;cases hv;exact⟨o,cp,h3,h4,h6,hV.trans (h5.below (by omega) (by omega) hV.size)⟩
 clear hE;go_enter func6,ntmps6;go_upto_region 4 with(go_at_call 20;refine RD.mono ?_;rintro e w1 ⟨sa,oa,na,ka,xk,na',ka',rfl,hn,b1⟩);have b1':=di w1 (.cells #[.string sa,.slice oa na ka,.slice xk na' ka'] 25);have NW1:=NW _ _ _ _ (aG b1 b1') (hn.below b1');clear RD NW;go_upto_region 5 with(go_at_call 9;refine NW1.mono ?_;rintro e w2 ⟨LB,DB,rfl,hl2,b2⟩);have Om:=aG b1 (aG b1' b2);have z1:=(aG b1 b1').size;have PC:=hl2.Uo (by decide) (by decide) (by decide) (by decide);clear NW1;go_upto_region 7 with(first|(go_at_call 10;refine PC.mono ?_;rintro e w3 ⟨g3,c3,rfl,ED,b3⟩;have TX:=Qx (t:=[97,97,46,10,46,46,46,10]) ED (by decide) (by decide) (by decide) (by rw[a4U,a99]))|(go_at_call 21;refine TX.mono ?_;rintro e w4 ⟨rfl,b4⟩));have hl4:=hl2.below (aG b3 b4);have D1:=DO _ _ _ _ (aG Om (aG b3 b4)) z1 hl4;clear DO PC hl2 hl4 TX;go_upto_region 8 with(go_at_call 11;refine D1.mono ?_;rintro e w5 ⟨o5,c5,rfl,GZ,hl5,b5⟩);have bn:=di w5 (.cells #[aa 0] 3);have kn:=cZ w5 #[aa 0] 3;have own:(w5.alloc (.cells #[aa 0] 3)).ownsRow 0 3 1 (.slice (some ⟨w5.heap.size,0,none⟩) 1 1) 1 [aa 0]:=⟨rfl,.inr ⟨w5.heap.size,1,_,rfl,Nat.zero_le _,kn,Nat.le_refl _,by decide,rfl,rfl⟩⟩;have SI:=Dq (w5.alloc (.cells #[aa 0] 3)) o5 (some ⟨w5.heap.size,0,none⟩) c5 1 [0] (aP GZ bn) own (by decide);have SI:ax 18 #[.slice o5 1 c5,.slice (some ⟨w5.heap.size,0,none⟩) 1 1] (w5.alloc (.cells #[aa 0] 3)) fun e w'=>e=.returned (.bool true)/\Below (w5.alloc (.cells #[aa 0] 3)).heap.size (w5.alloc (.cells #[aa 0] 3)) w':=SI;clear own D1;go_wp2_with(first|(go_at_call 18;refine SI.mono ?_;rintro e w6 ⟨rfl,b6⟩;have PC:=(hl5.below (aG bn b6)).Uo (by decide) (by decide) (by decide) (by decide))|(go_at_call 10;refine PC.mono ?_;rintro e w7 ⟨g7,c7,rfl,kF,b7⟩;have TX:=Qx (t:=[46,46,46,10,46,46,46,10]) kF (by decide) (by decide) (by decide) a9a)|(go_at_call 21;refine TX.mono ?_;rintro e w8 ⟨rfl,b8⟩));go_ret;exact⟨rfl,aG b5 (aG (aG bn b6) (aG b7 b8))⟩
end
section
open Go.RowKit
def Lj (w:ag)(o:Option Addr)(l:List aD):Prop:=∀i s,l[i]? =some s->∃b off,o=some ⟨b,off,none⟩/\w.cell? (ak b (off+i))=some (.string s)
theorem Lj.below {w w':ag}{o:Option Addr}{l:List aD}(h:Lj w o l)(hb:Below w.heap.size w w'):Lj w' o l:=fun i s hs=>by
 obtain⟨b,off,h1,h2⟩:=h i s hs;exact⟨b,off,h1,(hb.cell (aC h2)).trans h2⟩
def a2u (a b:List aD)(e:Ending):Prop:=(a=b/\e=.returned (.bool true))\/(a≠b/\e=.returned (.bool false))
end
section
open Go.RowKit
set_option maxRecDepth 20000
theorem Og (a b:List aD)(oa ob:Option Addr)(ca cb:Nat)(w:ag)(hla:a.length<=10000)(ha:Lj w oa a)(hb:Lj w ob b):
  ax 33 #[.slice oa a.length ca,.slice ob b.length cb] w fun e W=>a2u a b e/\Below w.heap.size w W:=by
 by_cases hne:a.length=b.length
 ·have hne':((a.length:Int)==(b.length:Int))=true:=by rw[hne];simp
  have hnb:((a.length:Int) !=(b.length:Int))=false:=by rw[hne];simp
  have Te:=aj hne;clear hne;go_enter func33,ntmps33;go_wp2_with fail
  go_loopw [13] (fun i wr=>∃k:Nat,k<=a.length/\i=aa k/\a.take k=b.take k/\Below w.heap.size w wr) (fun i _=>a.length-(intOf i).toNat)
  case atStart=>exact⟨0,Nat.zero_le _,rfl,rfl,Below.refl _ _⟩
  case round=>
   obtain⟨k,hk,rfl,hrt,hB⟩:=hrel;by_cases hlt:k<a.length
   ·have hlt':(k:Int)<(a.length:Int):=by omega
    have a8H:(k:Int)<(b.length:Int):=by have:=Te.out;omega
    obtain⟨x,hx⟩:∃x,a[k]? =some x:=⟨_,List.getElem?_eq_getElem hlt⟩;obtain⟨y,hy⟩:∃y,b[k]? =some y:=⟨_,List.getElem?_eq_getElem (by have:=Te.out;omega)⟩;obtain⟨b1,f1,rfl,c1⟩:=ha.below hB k x hx;obtain⟨b2,f2,rfl,c2⟩:=hb.below hB k y hy;have HX:Hid (a[k]? =some x/\b[k]? =some y):=⟨hx,hy⟩;clear hx hy;have d1:wr.drew.cell? (ak b1 (f1+k))=some (.string x):=c1;have d2:wr.drew.cell? (ak b2 (f2+k))=some (.string y):=c2;by_cases hxy:x=y
    ·subst hxy;go_upto_region 6 with fail;go_region
     all_goals
      go_wp2_with fail
      go_roundw
      case rel=>exact⟨k+1,by omega,by go_num,by rw[List.take_add_one,List.take_add_one,hrt,HX.out.1,HX.out.2],hB.drew⟩
      case measure=>simp[intOf];omega
    ·have hxl:(x.toList==y.toList)=false:=beq_eq_false_iff_ne.2 (fun h=>hxy (ba_eq h));have hno:a≠b:=fun h=>hxy (by
      have:=HX.out.1;rw[h,HX.out.2] at this;cases this;rfl)
     go_upto_region 6 with fail;go_region
     all_goals
      go_wp2_with fail;go_ret;exact⟨.inr ⟨hno,rfl⟩,hB.drew⟩
   ·obtain rfl:k=a.length:=by omega
    have hab:a=b:=by
     rw[List.take_length] at hrt;rw[Te.out,List.take_length] at hrt;exact hrt
    go_wp2_with fail;go_ret;exact⟨.inl ⟨hab,rfl⟩,hB⟩
 ·have hno:a≠b:=fun h=>hne (by rw[h]);have hne':((a.length:Int)==(b.length:Int))=false:=by rw[beq_eq_false_iff_ne];omega
  have hnb:((a.length:Int) !=(b.length:Int))=true:=by rw[bne,hne'];rfl
  clear hne;go_enter func33,ntmps33;go_wp2_with fail;go_ret;exact⟨.inr ⟨hno,rfl⟩,Below.refl _ _⟩
theorem Yl (a b:List aD)(oa ob:Option Addr)(ca cb:Nat)(n h:Int)(w:ag)(hla:a.length<=10000)(ha:Lj w oa a)(hb:Lj w ob b):
  ax 13 #[.agg #[aa n,aa h,.slice oa a.length ca],.agg #[aa n,aa h,.slice ob b.length cb]] w fun e W=>a2u a b e/\Below w.heap.size w W:=by
 have b0:=aU w (.cells #[aa n,aa h,.slice oa a.length ca] 40);have b1:=aU (w.alloc (.cells #[aa n,aa h,.slice oa a.length ca] 40)) (.cells #[aa n,aa h,.slice ob b.length cb] 40);have bb:=aA b0 b1;have EQ:=Og a b oa ob ca cb ((w.alloc (.cells #[aa n,aa h,.slice oa a.length ca] 40)).alloc (.cells #[aa n,aa h,.slice ob b.length cb] 40)) hla (ha.below bb) (hb.below bb);clear b0 b1;go_enter func13,ntmps13;go_wp2_with fail;refine EQ.mono ?_;rintro e w1 ⟨hr,b2⟩;rcases hr with⟨hab,rfl⟩|⟨hab,rfl⟩
 ·go_wp2_with fail;go_ret;exact⟨.inl ⟨hab,rfl⟩,aA bb b2⟩
 ·go_wp2_with fail;go_ret;exact⟨.inr ⟨hab,rfl⟩,aA bb b2⟩
end
section
open Go.RowKit
section
variable {W:ag}{LB B DB:Nat}{M:Dm}{nx c:Nat}{r:Int->Nat}{rl:List Rl}{l:List Pc}{w h:Nat}
theorem H6.lt (hl:H6 W LB B DB M nx c r rl l w h):LB<W.heap.size/\DB<W.heap.size:=by
 obtain⟨tg,MB,p,rv,qs,pv,cv,h1, -⟩:=hl;exact⟨aM h1.lb,aM h1.ds.w.doc⟩
end
theorem Ym {w:ag}{B g n cp:Nat}{l:List aD}(h:w.ownsRow B 9 1 (.slice (some ⟨g,0,none⟩) n cp) n (l.map .string)):Lj w (some ⟨g,0,none⟩) l:=fun i x hx=>by
 obtain⟨g',hg,hc⟩:=bO h i (.string x) (by rw[List.getElem?_map,hx];rfl);cases hg;exact⟨g,0,rfl,by rw[Nat.zero_add];exact hc⟩
theorem Yo {w:ag}{B B' g g' cp cp':Nat}{l:List aD}(hl:l.length=72)(h:w.ownsRow B 9 1 (.slice (some ⟨g,0,none⟩) 72 cp) 72 (l.map .string))(h':w.ownsRow B' 9 1 (.slice (some ⟨g',0,none⟩) 72 cp') 72 (l.map .string)):
  ax 13 #[.agg #[aa 9,aa 8,.slice (some ⟨g,0,none⟩) 72 cp],.agg #[aa 9,aa 8,.slice (some ⟨g',0,none⟩) 72 cp']] w fun e W=>e=.returned (.bool true)/\Below w.heap.size w W:=by
 have h1:=Yl l l (some ⟨g,0,none⟩) (some ⟨g',0,none⟩) cp cp' 9 8 w (by omega) (Ym h) (Ym h');rw[hl] at h1;refine h1.mono fun e W ⟨h2,h3⟩=>⟨?_,h3⟩;rcases h2 with⟨-,h2⟩|⟨h2, -⟩
 ·exact h2
 ·exact absurd rfl h2
structure Ed6 (w:ag)(b k:Nat)(x:Ed):Prop where
 c0:w.cell? (ak b k)=some (.string ⟨x.kd.toArray⟩)
 c1:w.cell? (ak b (k+1))=some (aa x.n)
 c2:w.cell? (ak b (k+2))=some (aa x.m)
 c3:w.cell? (ak b (k+3))=some (aa x.ea)
 c4:w.cell? (ak b (k+4))=some (.string ⟨x.nm.toArray⟩)
 c5:w.cell? (ak b (k+5))=some (.string ⟨x.vl.toArray⟩)
theorem Ed6.below {w w':ag}{b k:Nat}{x:Ed}(h:Ed6 w b k x)(hb:Below w.heap.size w w'):Ed6 w' b k x:=⟨(hb.cell (az h.c0)).trans h.c0,(hb.cell (az h.c1)).trans h.c1,(hb.cell (az h.c2)).trans h.c2,(hb.cell (az h.c3)).trans h.c3,(hb.cell (az h.c4)).trans h.c4,(hb.cell (az h.c5)).trans h.c5⟩
theorem EdQ.six {w:ag}{b k:Nat}{x:Ed}(h:EdQ w b k x):Ed6 w b k x:=⟨h.c0,h.c1,h.c2,h.c3,h.c4,h.c5⟩
theorem Qy {w:ag}{B m cp:Nat}{o:Option Addr}{L:List Nat}(h:w.ownsRow B 3 1 (.slice o m cp) L.length (bD (L.map fun(y:Nat)=>(y:Int)))){k:Nat}{y:Nat}(hk:L[k]? =some y):∃g,o=some ⟨g,0,none⟩/\w.cell? (ak g k)=some (aa y):=by
 obtain⟨g,hg,hc⟩:=bO h k (aa y) (by unfold bD;rw[List.map_map,List.getElem?_map,hk];rfl);obtain⟨o',cp',hv, -, -, -,ho⟩:=bS h;cases hv;exact⟨g,ho g hg,hc⟩
theorem a1r (a b:List Pc):(jS a b 8).length<=8:=by
 unfold jS;exact Nat.le_trans (List.length_filter_le _ _) (by simp)
abbrev pbx (g cp:Nat):Array ah:=#[aa 9,aa 8,.slice (some ⟨g,0,none⟩) 72 cp]
end
end Go.Proofs.YtjfiehbcamfdfaaGreatDoor

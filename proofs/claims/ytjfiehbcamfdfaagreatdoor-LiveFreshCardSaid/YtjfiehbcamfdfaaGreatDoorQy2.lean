/-
  Parts of the proof.
-/
import Derived.Test.YtjfiehbcamfdfaaGreatDoorQy1
namespace Go.Proofs.YtjfiehbcamfdfaaGreatDoor
open Go.Proofs.Tryz
section
def a2x (xn xd yn yd Xn Xd Yn Yd:Int):List Qt:=[⟨xn,xd,yn,yd⟩,⟨Xn,Xd,yn,yd⟩,⟨Xn,Xd,Yn,Yd⟩,⟨xn,xd,Yn,Yd⟩]
end
section
structure Pm where
 pts:List Qt
 fill:ByteArray
 rule:ByteArray
def jw (x y:Int):Qt:=⟨2*x+1,2,2*y+1,2⟩
def jL (y n d:Int):Int:=2*n-(2*y+1)*d
def TT:List UInt8:=[119,105,110,100]
def a1k:List UInt8:=[101,118,101,110]
def a2e:ByteArray:=⟨#[46]⟩
def holdB (l:List Qt)(rule:ByteArray)(c:Qt):Bool:=if rule.toList=TT then sG (bq c) l !=0 else(sG (fun a b=>bq c a b*bq c a b) l).tmod 2==1
def qy:List Pm->Qt->ByteArray
 |[],_=>a2e
 |s::l,c=>if holdB s.pts s.rule c then s.fill else qy l c
def fZ (l:List Pm)(c:Qt):ByteArray:=qy l.reverse c
theorem zI (a b:List Pm)(c:Qt)(h:∀s∈a,holdB s.pts s.rule c=false):qy (a++b) c=qy b c:=by
 induction a with
 |nil=>rfl
 |cons s a ih=>
  rw[List.cons_append,qy,h s (List.mem_cons_self ..),if_neg (by simp)];exact ih (fun x hx=>h x (List.mem_cons_of_mem _ hx))
theorem Lv (a b:List Pm)(s:Pm)(c:Qt)(h:∀s∈a,holdB s.pts s.rule c=false)(hs:holdB s.pts s.rule c=true):qy (a++s::b) c=s.fill:=by
 rw[zI a _ c h,qy,if_pos hs]
theorem H9 (a:List Pm)(c:Qt)(h:∀s∈a,holdB s.pts s.rule c=false):qy a c=a2e:=by
 have:=zI a [] c h;rwa[List.append_nil] at this
section
variable (rc:List Qt->Int->Bool)
def mq (l:List Pm)(w:Nat)(y:Int):List ByteArray:=(List.range w).map fun(x:Nat)=>fZ (l.filter fun s=>rc s.pts y) (jw (x:Int) y)
def iZ (l:List Pm)(w h:Nat):List ByteArray:=(List.range h).flatMap fun(y:Nat)=>mq rc l w (y:Int)
theorem ng (l:List Pm)(w:Nat)(y:Int):(mq rc l w y).length=w:=by simp[mq]
theorem wE (l:List Pm)(w h:Nat):iZ rc l w (h+1)=iZ rc l w h++mq rc l w h:=by
 unfold iZ;rw[List.range_succ,List.flatMap_append];simp
theorem gF (l:List Pm)(w:Nat):∀h:Nat,(iZ rc l w h).length=w*h
 |0=>rfl
 |h+1=>by rw[wE,List.length_append,gF l w h,ng,Nat.mul_succ]
theorem uN (l:List Pm)(w:Nat):∀h y:Nat,y<h->((iZ rc l w h).drop (w*y)).take w=mq rc l w y
 |0,y,hy=>by omega
 |h+1,y,hy=>by
  rw[wE];by_cases e:y=h
  ·subst e;rw[List.drop_append_of_le_length (by rw[gF];exact Nat.le_refl _),List.drop_eq_nil_of_le (by rw[gF];exact Nat.le_refl _),List.nil_append,List.take_of_length_le (by rw[ng];exact Nat.le_refl _)]
  ·have h1:y+1<=h:=by omega
   have h2:w*(y+1)<=w*h:=Nat.mul_le_mul_left w h1;rw[Nat.mul_succ] at h2;rw[List.drop_append_of_le_length (by rw[gF];omega),List.take_append_of_le_length (by rw[List.length_drop,gF];omega)];exact uN l w h y (by omega)
end
def O0 (l:List Qt)(y:Int):Bool:=l.any fun a=>decide (jL y a.yn a.yd<=0)
def EU (l:List Qt)(y:Int):Bool:=l.any fun a=>decide (0<=jL y a.yn a.yd)
def aC (l:List Qt)(y:Int):Bool:=
 if y< -1073741824\/1073741824<=y then false else l.all (fun a=>decide (bK a.xn a.xd=0) && decide (bK a.yn a.yd=0)) && (O0 l y && EU l y)
end
section
open Go.RowKit
set_option maxHeartbeats 1000000
abbrev zJ (n:Int):Obj:=.cells #[aa (2*n+1),aa 2] 127
theorem He (n:Int)(w:World)(h1: -1000<=n)(h2:n<=1000):
  ak 135 #[aa n] w fun e W=>e=.returned (.agg #[aa (2*n+1),aa 2])/\W=w.alloc (zJ n):=by
 go_enter func135,ntmps135;go_wp2;exact bodyPost_ret (v:=.agg #[aa (2*n+1),aa 2]) (by simp[results,results135,go_sem]) rfl ⟨rfl,rfl⟩
abbrev a2f (x y:Int):Obj:=.cells #[aa (2*x+1),aa 2,aa (2*y+1),aa 2] 177
theorem Dv (x y:Int)(w:World):Below w.heap.size w (((w.alloc (a2f x y)).alloc (zJ x)).alloc (zJ y)):=(((Below.refl _ _).alloc eU _).alloc (by simp) _).alloc (by simp;omega) _
theorem zK (x y:Int)(w:World)(h1: -1000<=x)(h2:x<=1000)(h3: -1000<=y)(h4:y<=1000):
  ak 89 #[aa x,aa y] w fun e W=>e=.returned (lS (jw x y))/\W=((w.alloc (a2f x y)).alloc (zJ x)).alloc (zJ y):=by
 have HX:=fun V=>He x V h1 h2;have HY:=fun V=>He y V h3 h4;go_enter func89,ntmps89;go_wp2_with(first|(go_at_call_of 135 y;refine(HY _).mono ?_;rintro e w2 ⟨rfl,rfl⟩)|(go_at_call_of 135 x;refine(HX _).mono ?_;rintro e w1 ⟨rfl,rfl⟩));exact bodyPost_ret (v:=lS (jw x y)) (by simp[results,results89,go_sem,jw]) rfl ⟨rfl,rfl⟩
theorem tY (n:Int)(w:World):ak 46 #[aa n] w fun e W=>e=.returned (.bool (decide (1<=n/\n<=40)))/\W=w:=by
 by_cases h1:1<=n
 ·by_cases h2:n<=40
  ·go_enter func46,ntmps46;go_wp2;go_ret;exact⟨uH (by simp[h1,h2]),rfl⟩
  ·go_enter func46,ntmps46;go_wp2;go_ret;exact⟨uH (by simp[h2]),rfl⟩
 ·go_enter func46,ntmps46;go_wp2;go_ret;exact⟨uH (by simp;omega),rfl⟩
theorem Lx {y n d:Int}(h1: -1073741824<=y)(h2:y<1073741824)(h:bK n d=0):lH (2*n)/\lH (2*y)/\lH (2*y+1)/\lH ((2*y+1)*d)/\lH (2*n-(2*y+1)*d):=by
 obtain⟨a1, -,a3,a4⟩:=dA.1 h;have hd:0<=d:=by omega
 have hd2:d<=1073741824:=by omega
 have k1:(2*y+1)*d<=2147483647*d:=Int.mul_le_mul_of_nonneg_right (by omega) hd;have k2: -2147483648*d<=(2*y+1)*d:=Int.mul_le_mul_of_nonneg_right (by omega) hd;refine⟨⟨by omega,by omega⟩,⟨by omega,by omega⟩,⟨by omega,by omega⟩,⟨by omega,by omega⟩,⟨by omega,by omega⟩⟩
theorem EW (y n d:Int)(w:World)(h1: -1073741824<=y)(h2:y<1073741824)(h:bK n d=0):
  ak 133 #[aa y,.agg #[aa n,aa d]] w fun e W=>e=.returned (aa (jL y n d))/\Below w.heap.size w W:=by
 obtain⟨⟨m1,m2⟩,⟨m3,m4⟩,⟨m5,m6⟩,⟨m7,m8⟩,⟨m9,m10⟩⟩:=Lx h1 h2 h;have b0:=aL w (.cells #[aa n,aa d] 127);unfold jL;go_enter func133,ntmps133;go_wp2;go_ret;exact⟨rfl,b0⟩
end
section
open Go.RowKit
structure P5 where
 nd:Int
 o:Option Addr
 cap:Nat
 s:Pm
 lv:Int
abbrev TV (x:P5):Value:=.agg #[aa x.nd,.slice x.o x.s.pts.length x.cap,.string x.s.fill,.string x.s.rule,aa x.lv]
abbrev wF (x:P5):Array Value:=#[aa x.nd,.slice x.o x.s.pts.length x.cap,.string x.s.fill,.string x.s.rule,aa x.lv]
structure La (w:World)(b i:Nat)(x:P5):Prop where
 c0:w.cell? (ag b i)=some (aa x.nd)
 c1:w.cell? (ag b (i+1))=some (.slice x.o x.s.pts.length x.cap)
 c2:w.cell? (ag b (i+2))=some (.string x.s.fill)
 c3:w.cell? (ag b (i+3))=some (.string x.s.rule)
 c4:w.cell? (ag b (i+4))=some (aa x.lv)
theorem La.below {w w':World}{b i n:Nat}{x:P5}(h:La w b i x)(hb:Below n w w')(hn:w.heap.size<=n):La w' b i x:=by
 have hl:b<n:=Nat.lt_of_lt_of_le (ay h.c0) hn;exact⟨(hb.cell (p:=⟨b,i,none⟩) hl).trans h.c0,(hb.cell (p:=⟨b,i+1,none⟩) hl).trans h.c1,(hb.cell (p:=⟨b,i+2,none⟩) hl).trans h.c2,(hb.cell (p:=⟨b,i+3,none⟩) hl).trans h.c3,(hb.cell (p:=⟨b,i+4,none⟩) hl).trans h.c4⟩
theorem La.new (w:World)(x:P5)(t:TypeId):La (w.alloc (.cells (wF x) t)) w.heap.size 0 x:=⟨by simp,by simp,by simp,by simp,by simp⟩
def gG (w:World)(o:Option Addr)(l:List P5):Prop:=∀i x,l[i]? =some x->∃b off,o=some ⟨b,off,none⟩/\La w b (off+i*5) x
theorem gG.below {w w':World}{o:Option Addr}{l:List P5}{n:Nat}(h:gG w o l)(hb:Below n w w')(hn:w.heap.size<=n):gG w' o l:=fun i a ha=>by
 obtain⟨b,off,h1,h2⟩:=h i a ha;exact⟨b,off,h1,h2.below hb hn⟩
def iC (w:World)(l:List P5):Prop:=∀x∈l,dM w x.o x.s.pts
theorem iC.below {w w':World}{l:List P5}{n:Nat}(h:iC w l)(hb:Below n w w')(hn:w.heap.size<=n):iC w' l:=fun x hx=>(h x hx).below hb hn
abbrev sP (l:List P5):List Pm:=l.map (·.s)
end
section
open Go.RowKit
set_option maxHeartbeats 4000000
set_option maxRecDepth 20000
def rz (l:List Qt)(k:Nat):Prop:=∀a∈l.take k,bK a.xn a.xd=0/\bK a.yn a.yd=0
theorem Hf (l:List Qt)(f:Qt->Bool)(k:Nat)(a:Qt)(h:l[k]? =some a):(l.take (k+1)).any f=((l.take k).any f||f a):=by
 rw[List.take_add_one,h];simp
theorem rz.snoc {l:List Qt}{k:Nat}{a:Qt}(h:rz l k)(ha:l[k]? =some a)(h1:bK a.xn a.xd=0)(h2:bK a.yn a.yd=0):rz l (k+1):=fun b hb=>by
 rw[List.take_add_one,ha] at hb;rcases List.mem_append.1 hb with hb|hb
 ·exact h b hb
 ·simp at hb;subst hb;exact⟨h1,h2⟩
theorem xL {l:List Qt}{y:Int}{a:Qt}(ha:a∈l)(h:¬(bK a.xn a.xd=0/\bK a.yn a.yd=0)):aC l y=false:=by
 unfold aC;split
 ·rfl
 ·have:l.all (fun a=>decide (bK a.xn a.xd=0) && decide (bK a.yn a.yd=0))=false:=by
   rw[List.all_eq_false];exact⟨a,ha,by simpa using h⟩
  rw[this];rfl
theorem LF {l:List Qt}{y:Int}(h1:¬y< -1073741824)(h2:¬1073741824<=y)(h:rz l l.length):aC l y=(O0 l y && EU l y):=by
 unfold aC;rw[if_neg (by omega)];have:l.all (fun a=>decide (bK a.xn a.xd=0) && decide (bK a.yn a.yd=0))=true:=by
  rw[List.all_eq_true];intro a ha;have:=h a (by rw[List.take_length];exact ha);simp[this]
 rw[this];rfl
theorem gG.box (w:World)(x:P5)(t:TypeId):La (w.alloc (.cells (wF x) t)) w.heap.size 0 x/\Below w.heap.size w (w.alloc (.cells (wF x) t)):=⟨La.new w x t,aL w _⟩
theorem xM (aB aS aZ:Addr)(x:P5)(y:Int)(w:World)(hl:x.s.pts.length<=1000)(h:dM w x.o x.s.pts)(hE:E3 aB aS aZ w):
  ak 87 #[TV x,aa y] w fun e W=>e=.returned (.bool (aC x.s.pts y))/\Below w.heap.size w W:=by
 obtain⟨C0,b0⟩:=gG.box w x 138;by_cases h1:y< -1073741824
 ·have hr:aC x.s.pts y=false:=by unfold aC;rw[if_pos (.inl h1)]
  rw[hr];go_enter func87,ntmps87;go_wp2;go_ret;exact⟨rfl,b0⟩
 by_cases h2:1073741824<=y
 ·have hr:aC x.s.pts y=false:=by unfold aC;rw[if_pos (.inr h2)]
  rw[hr];go_enter func87,ntmps87;go_wp2;go_ret;exact⟨rfl,b0⟩
 obtain⟨T,hT⟩:∃T,aC x.s.pts y=T:=⟨_,rfl⟩;rw[hT];have HT:Hid (aC x.s.pts y=T):=hT;clear hT;go_enter func87,ntmps87;go_upto_region 1 with fail;obtain⟨U,hU⟩:∃U,w.alloc (.cells (wF x) 138)=U:=⟨_,rfl⟩;rw[hU] at C0 b0⊢;clear hU;have hU:=h.below b0 eU;have Hg:=hE.below b0 eU;obtain⟨c0,c1,c2,c3,c4⟩:=C0;go_wp2_with fail;clear c0 c1 c2 c3 c4
 go_loopw [5,6,20] (fun u v i wr=>∃k:Nat,k<=x.s.pts.length/\i=aa k/\u=.bool ((x.s.pts.take k).any fun a=>decide (jL y a.yn a.yd<=0))/\v=.bool ((x.s.pts.take k).any fun a=>decide (0<=jL y a.yn a.yd))/\rz x.s.pts k/\Below U.heap.size U wr) (fun _ _ i _=>x.s.pts.length-(intOf i).toNat)
 case atStart=>exact⟨0,Nat.zero_le _,rfl,rfl,rfl,(fun a ha=>by simp at ha),Below.refl _ _⟩
 case round=>
  obtain⟨k,hk,rfl,rfl,rfl,hrt,hb⟩:=hrel;by_cases hlt:k<x.s.pts.length
  ·have hlt':(k:Int)<(x.s.pts.length:Int):=by omega
   obtain⟨a,ha⟩:∃a,x.s.pts[k]? =some a:=⟨_,List.getElem?_eq_getElem hlt⟩;obtain⟨b,off,ho,q0,q1,q2,q3,hpi⟩:=hU.below hb eU k a ha;rw[ho];have hEw:=Hg.below hb eU;have F0:=Four.new wr (aa a.xn) (aa a.xd) (aa a.yn) (aa a.yd) 177;have b1:=aL wr (.cells #[aa a.xn,aa a.xd,aa a.yn,aa a.yd] 177);have CX:=fun V (hv:Below wr.heap.size wr V)=>gU aB aS aZ a.xn a.xd V hpi.xn hpi.xd (hEw.below hv eU);have CY:=fun V (hv:Below wr.heap.size wr V)=>gU aB aS aZ a.yn a.yd V hpi.yn hpi.yd (hEw.below hv eU);have hmem:a∈x.s.pts:=List.mem_of_getElem? ha;obtain⟨f0,f1,f2,f3⟩:=id F0;by_cases hx:bK a.xn a.xd=0
   ·rw[hx,nZ] at CX;by_cases hy:bK a.yn a.yd=0
    ·rw[hy,nZ] at CY;have DF:=fun V=>EW y a.yn a.yd V (by omega) (by omega) hy;have HR:Hid (rz x.s.pts (k+1)):=hrt.snoc ha hx hy;have HO:Hid ((x.s.pts.take (k+1)).any (fun a=>decide (jL y a.yn a.yd<=0))=((x.s.pts.take k).any (fun a=>decide (jL y a.yn a.yd<=0))||decide (jL y a.yn a.yd<=0))):=Hf _ _ k a ha;have HU:Hid ((x.s.pts.take (k+1)).any (fun a=>decide (0<=jL y a.yn a.yd))=((x.s.pts.take k).any (fun a=>decide (0<=jL y a.yn a.yd))||decide (0<=jL y a.yn a.yd))):=Hf _ _ k a ha;clear hrt hx hy ha;generalize jL y a.yn a.yd=dn at DF HO HU;generalize (x.s.pts.take k).any (fun a=>decide (jL y a.yn a.yd<=0))=ov at HO⊢;generalize (x.s.pts.take k).any (fun a=>decide (0<=jL y a.yn a.yd))=un at HU⊢;go_upto_region 10 with(first|(go_at_call 133;refine(DF _).mono ?_;rintro e w4 ⟨rfl,b4⟩)|(go_at_call_of 132 a.yn;refine(CY _ (au b1 b2)).mono ?_;rintro e w3 ⟨rfl,b3⟩;obtain⟨k0,k1,k2,k3⟩:=(F0.below b2 eU).below b3 eU)|(go_at_call_of 132 a.xn;refine(CX _ b1).mono ?_;rintro e w2 ⟨rfl,b2⟩;obtain⟨g0,g1,g2,g3⟩:=F0.below b2 eU));have bb:=au hb (au (au (au b1 b2) b3) b4);clear F0 b1 b2 b3 b4 f0 f1 f2 f3 CX CY DF;by_cases hd1:dn<=0
     ·by_cases hd2:0<=dn
      ·cases ov with
       |true=>
        cases un with
        |true=>
         go_wp2_with fail
         go_roundw
         case rel=>exact⟨k+1,by omega,by simp,by rw[HO.out];simp,by rw[HU.out];simp,HR.out,bb⟩
         case measure=>simp[intOf];omega
        |false=>
         go_wp2_with fail
         go_roundw
         case rel=>exact⟨k+1,by omega,by simp,by rw[HO.out];simp,by rw[HU.out];simp[hd2],HR.out,bb⟩
         case measure=>simp[intOf];omega
       |false=>
        cases un with
        |true=>
         go_wp2_with fail
         go_roundw
         case rel=>exact⟨k+1,by omega,by simp,by rw[HO.out];simp[hd1],by rw[HU.out];simp,HR.out,bb⟩
         case measure=>simp[intOf];omega
        |false=>
         go_wp2_with fail
         go_roundw
         case rel=>exact⟨k+1,by omega,by simp,by rw[HO.out];simp[hd1],by rw[HU.out];simp[hd2],HR.out,bb⟩
         case measure=>simp[intOf];omega
      ·cases ov with
       |true=>
        cases un with
        |true=>
         go_wp2_with fail
         go_roundw
         case rel=>exact⟨k+1,by omega,by simp,by rw[HO.out];simp,by rw[HU.out];simp,HR.out,bb⟩
         case measure=>simp[intOf];omega
        |false=>
         go_wp2_with fail
         go_roundw
         case rel=>exact⟨k+1,by omega,by simp,by rw[HO.out];simp,by rw[HU.out];simp[hd2],HR.out,bb⟩
         case measure=>simp[intOf];omega
       |false=>
        cases un with
        |true=>
         go_wp2_with fail
         go_roundw
         case rel=>exact⟨k+1,by omega,by simp,by rw[HO.out];simp[hd1],by rw[HU.out];simp,HR.out,bb⟩
         case measure=>simp[intOf];omega
        |false=>
         go_wp2_with fail
         go_roundw
         case rel=>exact⟨k+1,by omega,by simp,by rw[HO.out];simp[hd1],by rw[HU.out];simp[hd2],HR.out,bb⟩
         case measure=>simp[intOf];omega
     ·by_cases hd2:0<=dn
      ·cases ov with
       |true=>
        cases un with
        |true=>
         go_wp2_with fail
         go_roundw
         case rel=>exact⟨k+1,by omega,by simp,by rw[HO.out];simp,by rw[HU.out];simp,HR.out,bb⟩
         case measure=>simp[intOf];omega
        |false=>
         go_wp2_with fail
         go_roundw
         case rel=>exact⟨k+1,by omega,by simp,by rw[HO.out];simp,by rw[HU.out];simp[hd2],HR.out,bb⟩
         case measure=>simp[intOf];omega
       |false=>
        cases un with
        |true=>
         go_wp2_with fail
         go_roundw
         case rel=>exact⟨k+1,by omega,by simp,by rw[HO.out];simp[hd1],by rw[HU.out];simp,HR.out,bb⟩
         case measure=>simp[intOf];omega
        |false=>
         go_wp2_with fail
         go_roundw
         case rel=>exact⟨k+1,by omega,by simp,by rw[HO.out];simp[hd1],by rw[HU.out];simp[hd2],HR.out,bb⟩
         case measure=>simp[intOf];omega
      ·exact absurd (show 0<=dn by omega) hd2
    ·obtain⟨ad,GD⟩:=eT aB aS aZ (show bK a.yn a.yd=2\/bK a.yn a.yd=3 by have:=dL a.yn a.yd;omega);rw[GD] at CY;have hr:T=false:=HT.out.symm.trans (xL hmem (fun h=>hy h.2));subst hr;clear GD hrt ha hx hy;go_wp2_with(first|(go_at_call_of 132 a.yn;refine(CY _ (au b1 b2)).mono ?_;rintro e w3 ⟨rfl,b3⟩)|(go_at_call_of 132 a.xn;refine(CX _ b1).mono ?_;rintro e w2 ⟨rfl,b2⟩;obtain⟨g0,g1,g2,g3⟩:=F0.below b2 eU));go_ret;exact⟨rfl,au b0 (au hb (au (au b1 b2) b3))⟩
   ·obtain⟨ad,GD⟩:=eT aB aS aZ (show bK a.xn a.xd=2\/bK a.xn a.xd=3 by have:=dL a.xn a.xd;omega);rw[GD] at CX;have hr:T=false:=HT.out.symm.trans (xL hmem (fun h=>hx h.1));subst hr;clear GD hrt ha hx;go_wp2_with(first|(go_at_call_of 132 a.xn;refine(CX _ b1).mono ?_;rintro e w2 ⟨rfl,b2⟩;obtain⟨g0,g1,g2,g3⟩:=F0.below b2 eU));go_ret;exact⟨rfl,au b0 (au hb (au b1 b2))⟩
  ·obtain rfl:k=x.s.pts.length:=by omega
   have hr:T=(O0 x.s.pts y && EU x.s.pts y):=HT.out.symm.trans (LF (by omega) (by omega) hrt);unfold O0 EU at hr;rw[List.take_length];have HR:Hid (T=(_ && _)):=hr;clear hr hrt;generalize x.s.pts.any (fun a=>decide (jL y a.yn a.yd<=0))=ov at HR⊢;generalize x.s.pts.any (fun a=>decide (0<=jL y a.yn a.yd))=un at HR⊢;cases ov with
   |true=>
    go_wp2_with fail;go_ret;exact⟨by rw[HR.out];rfl,au b0 hb⟩
   |false=>
    go_wp2_with fail;go_ret;exact⟨by rw[HR.out];rfl,au b0 hb⟩
end
end Go.Proofs.YtjfiehbcamfdfaaGreatDoor

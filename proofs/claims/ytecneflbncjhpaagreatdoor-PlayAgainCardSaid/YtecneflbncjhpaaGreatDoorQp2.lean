/- Parts of the proof. -/
import Derived.Test.YtecneflbncjhpaaGreatDoorQp1
namespace Go.Proofs.YtecneflbncjhpaaGreatDoor
open Go.Proofs.Tryz
set_option maxHeartbeats 4000000
section
structure Pm where
 pts:List Qt
 fill:aC
 rule:aC
def jX (x y:Int):Qt:=⟨2*x+1,2,2*y+1,2⟩
def kK (y n d:Int):Int:=2*n-(2*y+1)*d
def VU:List UInt8:=[119,105,110,100]
def a3F:List UInt8:=[101,118,101,110]
def a4A:aC:=⟨#[46]⟩
def holdB (l:List Qt)(rule:aC)(c:Qt):Bool:=if rule.toList=VU then tZ (cO c) l !=0 else(tZ (fun a b=>cO c a b*cO c a b) l).tmod 2==1
def qP:List Pm->Qt->aC
 |[],_=>a4A
 |s::l,c=>if holdB s.pts s.rule c then s.fill else qP l c
def iD (l:List Pm)(c:Qt):aC:=qP l.reverse c
theorem AJ (a b:List Pm)(c:Qt)(h:∀s∈a,holdB s.pts s.rule c=false):qP (a++b) c=qP b c:=by
 induction a with
 |nil=>rfl
 |cons s a ih=>
  rw[List.cons_append,qP,h s (List.mem_cons_self ..),if_neg (by simp)];exact ih (fun x hx=>h x (List.mem_cons_of_mem _ hx))
theorem NF (a b:List Pm)(s:Pm)(c:Qt)(h:∀s∈a,holdB s.pts s.rule c=false)(hs:holdB s.pts s.rule c=true):qP (a++s::b) c=s.fill:=by
 rw[AJ a _ c h,qP,if_pos hs]
theorem Jo (a:List Pm)(c:Qt)(h:∀s∈a,holdB s.pts s.rule c=false):qP a c=a4A:=by
 have:=AJ a [] c h;rwa[List.append_nil] at this
section
variable (rc:List Qt->Int->Bool)
def nP (l:List Pm)(w:Nat)(y:Int):List aC:=(List.range w).map fun(x:Nat)=>iD (l.filter fun s=>rc s.pts y) (jX (x:Int) y)
def lW (l:List Pm)(w h:Nat):List aC:=(List.range h).flatMap fun(y:Nat)=>nP rc l w (y:Int)
theorem qQ (l:List Pm)(w:Nat)(y:Int):(nP rc l w y).length=w:=by simp[nP]
theorem xA (l:List Pm)(w h:Nat):lW rc l w (h+1)=lW rc l w h++nP rc l w h:=by
 unfold lW;rw[List.range_succ,List.flatMap_append];simp
theorem jJ (l:List Pm)(w:Nat):∀h:Nat,(lW rc l w h).length=w*h
 |0=>rfl
 |h+1=>by rw[xA,List.length_append,jJ l w h,qQ,Nat.mul_succ]
theorem wm (l:List Pm)(w:Nat):∀h y:Nat,y<h->((lW rc l w h).drop (w*y)).take w=nP rc l w y
 |0,y,hy=>by omega
 |h+1,y,hy=>by
  rw[xA];by_cases e:y=h
  ·subst e;rw[List.drop_append_of_le_length (by rw[jJ];exact Nat.le_refl _),List.drop_eq_nil_of_le (by rw[jJ];exact Nat.le_refl _),List.nil_append,List.take_of_length_le (by rw[qQ];exact Nat.le_refl _)]
  ·have h1:y+1<=h:=by omega
   have h2:w*(y+1)<=w*h:=Nat.mul_le_mul_left w h1;rw[Nat.mul_succ] at h2;rw[List.drop_append_of_le_length (by rw[jJ];omega),List.take_append_of_le_length (by rw[List.length_drop,jJ];omega)];exact wm l w h y (by omega)
end
def Qe (l:List Qt)(y:Int):Bool:=l.any fun a=>decide (kK y a.yn a.yd<=0)
def Gz (l:List Qt)(y:Int):Bool:=l.any fun a=>decide (0<=kK y a.yn a.yd)
def aN (l:List Qt)(y:Int):Bool:=
 if y< -1073741824\/1073741824<=y then false else l.all (fun a=>decide (dH a.xn a.xd=0) && decide (dH a.yn a.yd=0)) && (Qe l y && Gz l y)
end
section
open Go.RowKit
abbrev AV (n:Int):Obj:=.cells #[aa (2*n+1),aa 2] 123
theorem Jp (n:Int)(w:ag)(h1: -1000<=n)(h2:n<=1000):
  au 136 #[aa n] w fun e W=>e=.returned (.agg #[aa (2*n+1),aa 2])/\W=w.alloc (AV n):=by
 go_enter func136,ntmps136;go_wp2;exact bodyPost_ret (v:=.agg #[aa (2*n+1),aa 2]) (by simp[results,results136,go_sem]) rfl ⟨rfl,rfl⟩
abbrev a4B (x y:Int):Obj:=.cells #[aa (2*x+1),aa 2,aa (2*y+1),aa 2] 168
theorem Fe (x y:Int)(w:ag):Below w.heap.size w (((w.alloc (a4B x y)).alloc (AV x)).alloc (AV y)):=(((aG _ _).alloc ai _).alloc (by simp) _).alloc (by simp;omega) _
theorem AZ (x y:Int)(w:ag)(h1: -1000<=x)(h2:x<=1000)(h3: -1000<=y)(h4:y<=1000):
  au 83 #[aa x,aa y] w fun e W=>e=.returned (mW (jX x y))/\W=((w.alloc (a4B x y)).alloc (AV x)).alloc (AV y):=by
 have HX:=fun V=>Jp x V h1 h2;have HY:=fun V=>Jp y V h3 h4;go_enter func83,ntmps83;go_wp2_with(first|(go_at_call_of 136 y;refine(HY _).mono ?_;rintro e w2 ⟨rfl,rfl⟩)|(go_at_call_of 136 x;refine(HX _).mono ?_;rintro e w1 ⟨rfl,rfl⟩));exact bodyPost_ret (v:=mW (jX x y)) (by simp[results,results83,go_sem,jX]) rfl ⟨rfl,rfl⟩
theorem uR (n:Int)(w:ag):au 45 #[aa n] w fun e W=>e=.returned (.bool (decide (1<=n/\n<=40)))/\W=w:=by
 by_cases h1:1<=n
 ·by_cases h2:n<=40
  ·go_enter func45,ntmps45;go_wp2;go_ret;exact⟨vT (by simp[h1,h2]),rfl⟩
  ·go_enter func45,ntmps45;go_wp2;go_ret;exact⟨vT (by simp[h2]),rfl⟩
 ·go_enter func45,ntmps45;go_wp2;go_ret;exact⟨vT (by simp;omega),rfl⟩
theorem NG {y n d:Int}(h1: -1073741824<=y)(h2:y<1073741824)(h:dH n d=0):jH (2*n)/\jH (2*y)/\jH (2*y+1)/\jH ((2*y+1)*d)/\jH (2*n-(2*y+1)*d):=by
 obtain⟨a1, -,a3,a4⟩:=eO.1 h;have hd:0<=d:=by omega
 have hd2:d<=1073741824:=by omega
 have k1:(2*y+1)*d<=2147483647*d:=Int.mul_le_mul_of_nonneg_right (by omega) hd;have k2: -2147483648*d<=(2*y+1)*d:=Int.mul_le_mul_of_nonneg_right (by omega) hd;refine⟨⟨by omega,by omega⟩,⟨by omega,by omega⟩,⟨by omega,by omega⟩,⟨by omega,by omega⟩,⟨by omega,by omega⟩⟩
theorem GA (y n d:Int)(w:ag)(h1: -1073741824<=y)(h2:y<1073741824)(h:dH n d=0):
  au 134 #[aa y,.agg #[aa n,aa d]] w fun e W=>e=.returned (aa (kK y n d))/\Below w.heap.size w W:=by
 obtain⟨⟨m1,m2⟩,⟨m3,m4⟩,⟨m5,m6⟩,⟨m7,m8⟩,⟨m9,m10⟩⟩:=NG h1 h2 h;have b0:=bg w (.cells #[aa n,aa d] 123);unfold kK;go_enter func134,ntmps134;go_wp2;go_ret;exact⟨rfl,b0⟩
structure P5 where
 nd:Int
 o:Option Addr
 cap:Nat
 s:Pm
 lv:Int
abbrev VV (x:P5):ah:=.agg #[aa x.nd,.slice x.o x.s.pts.length x.cap,.string x.s.fill,.string x.s.rule,aa x.lv]
abbrev xB (x:P5):Array ah:=#[aa x.nd,.slice x.o x.s.pts.length x.cap,.string x.s.fill,.string x.s.rule,aa x.lv]
structure Qf (w:ag)(b i:Nat)(x:P5):Prop where
 c0:w.cell? (ak b i)=some (aa x.nd)
 c1:w.cell? (ak b (i+1))=some (.slice x.o x.s.pts.length x.cap)
 c2:w.cell? (ak b (i+2))=some (.string x.s.fill)
 c3:w.cell? (ak b (i+3))=some (.string x.s.rule)
 c4:w.cell? (ak b (i+4))=some (aa x.lv)
theorem Qf.below {w w':ag}{b i n:Nat}{x:P5}(h:Qf w b i x)(hb:Below n w w')(hn:w.heap.size<=n):Qf w' b i x:=by
 have hl:b<n:=bI (aF h.c0) hn;exact⟨(hb.cell (p:=⟨b,i,none⟩) hl).trans h.c0,(hb.cell (p:=⟨b,i+1,none⟩) hl).trans h.c1,(hb.cell (p:=⟨b,i+2,none⟩) hl).trans h.c2,(hb.cell (p:=⟨b,i+3,none⟩) hl).trans h.c3,(hb.cell (p:=⟨b,i+4,none⟩) hl).trans h.c4⟩
theorem Qf.new (w:ag)(x:P5)(t:TypeId):Qf (w.alloc (.cells (xB x) t)) w.heap.size 0 x:=⟨by simp,by simp,by simp,by simp,by simp⟩
def iH (w:ag)(o:Option Addr)(l:List P5):Prop:=∀i x,l[i]? =some x->∃b off,o=some ⟨b,off,none⟩/\Qf w b (off+i*5) x
theorem iH.below {w w':ag}{o:Option Addr}{l:List P5}{n:Nat}(h:iH w o l)(hb:Below n w w')(hn:w.heap.size<=n):iH w' o l:=fun i a ha=>by
 obtain⟨b,off,h1,h2⟩:=h i a ha;exact⟨b,off,h1,h2.below hb hn⟩
def j5 (w:ag)(l:List P5):Prop:=∀x∈l,fH w x.o x.s.pts
theorem j5.below {w w':ag}{l:List P5}{n:Nat}(h:j5 w l)(hb:Below n w w')(hn:w.heap.size<=n):j5 w' l:=fun x hx=>(h x hx).below hb hn
abbrev sP (l:List P5):List Pm:=l.map (·.s)
end
section
open Go.RowKit
set_option maxRecDepth 20000
def rZ (l:List Qt)(k:Nat):Prop:=∀a∈l.take k,dH a.xn a.xd=0/\dH a.yn a.yd=0
theorem Jq (l:List Qt)(f:Qt->Bool)(k:Nat)(a:Qt)(h:l[k]? =some a):(l.take (k+1)).any f=((l.take k).any f||f a):=by
 rw[List.take_add_one,h];simp
theorem rZ.snoc {l:List Qt}{k:Nat}{a:Qt}(h:rZ l k)(ha:l[k]? =some a)(h1:dH a.xn a.xd=0)(h2:dH a.yn a.yd=0):rZ l (k+1):=fun b hb=>by
 rw[List.take_add_one,ha] at hb;rcases List.mem_append.1 hb with hb|hb
 ·exact h b hb
 ·simp at hb;subst hb;exact⟨h1,h2⟩
theorem yL {l:List Qt}{y:Int}{a:Qt}(ha:a∈l)(h:¬(dH a.xn a.xd=0/\dH a.yn a.yd=0)):aN l y=false:=by
 unfold aN;split
 ·rfl
 ·have:l.all (fun a=>decide (dH a.xn a.xd=0) && decide (dH a.yn a.yd=0))=false:=by
   rw[List.all_eq_false];exact⟨a,ha,by simpa using h⟩
  rw[this];rfl
theorem NH {l:List Qt}{y:Int}(h1:¬y< -1073741824)(h2:¬1073741824<=y)(h:rZ l l.length):aN l y=(Qe l y && Gz l y):=by
 unfold aN;rw[if_neg (by omega)];have:l.all (fun a=>decide (dH a.xn a.xd=0) && decide (dH a.yn a.yd=0))=true:=by
  rw[List.all_eq_true];intro a ha;have:=h a (by rw[List.take_length];exact ha);simp[this]
 rw[this];rfl
theorem iH.box (w:ag)(x:P5)(t:TypeId):Qf (w.alloc (.cells (xB x) t)) w.heap.size 0 x/\Below w.heap.size w (w.alloc (.cells (xB x) t)):=⟨Qf.new w x t,bg w _⟩
theorem yM (aB aS aZ:Addr)(x:P5)(y:Int)(w:ag)(hl:x.s.pts.length<=1000)(h:fH w x.o x.s.pts)(hE:E3 aB aS aZ w):
  au 81 #[VV x,aa y] w fun e W=>e=.returned (.bool (aN x.s.pts y))/\Below w.heap.size w W:=by
 obtain⟨C0,b0⟩:=iH.box w x 134;by_cases h1:y< -1073741824
 ·have hr:aN x.s.pts y=false:=by unfold aN;rw[if_pos (.inl h1)]
  rw[hr];go_enter func81,ntmps81;go_wp2;go_ret;exact⟨rfl,b0⟩
 by_cases h2:1073741824<=y
 ·have hr:aN x.s.pts y=false:=by unfold aN;rw[if_pos (.inr h2)]
  rw[hr];go_enter func81,ntmps81;go_wp2;go_ret;exact⟨rfl,b0⟩
 obtain⟨T,hT⟩:∃T,aN x.s.pts y=T:=⟨_,rfl⟩;rw[hT];have HT:=aj hT;clear hT;go_enter func81,ntmps81;go_upto_region 1 with fail;obtain⟨U,hU⟩:∃U,w.alloc (.cells (xB x) 134)=U:=⟨_,rfl⟩;rw[hU] at C0 b0⊢;clear hU;have hU:=h.below b0 ai;have Nc:=hE.below b0 ai;obtain⟨c0,c1,c2,c3,c4⟩:=C0;go_wp2_with fail;clear c0 c1 c2 c3 c4
 go_loopw [5,6,20] (fun u v i wr=>∃k:Nat,k<=x.s.pts.length/\i=aa k/\u=.bool ((x.s.pts.take k).any fun a=>decide (kK y a.yn a.yd<=0))/\v=.bool ((x.s.pts.take k).any fun a=>decide (0<=kK y a.yn a.yd))/\rZ x.s.pts k/\Below U.heap.size U wr) (fun _ _ i _=>x.s.pts.length-(intOf i).toNat)
 case atStart=>exact⟨0,aP _,rfl,rfl,rfl,(fun a ha=>by simp at ha),aG _ _⟩
 case round=>
  obtain⟨k,hk,rfl,rfl,rfl,hrt,hb⟩:=hrel;by_cases hlt:k<x.s.pts.length
  ·have hlt':(k:Int)<(x.s.pts.length:Int):=by omega
   obtain⟨a,ha⟩:∃a,x.s.pts[k]? =some a:=⟨_,dK hlt⟩;obtain⟨b,off,ho,q0,q1,q2,q3,hpi⟩:=hU.below hb ai k a ha;rw[ho];have hEw:=Nc.below hb ai;have F0:=Four.new wr (aa a.xn) (aa a.xd) (aa a.yn) (aa a.yd) 168;have b1:=bg wr (.cells #[aa a.xn,aa a.xd,aa a.yn,aa a.yd] 168);have CX:=fun V (hv:Below wr.heap.size wr V)=>iR aB aS aZ a.xn a.xd V hpi.xn hpi.xd (hEw.below hv ai);have CY:=fun V (hv:Below wr.heap.size wr V)=>iR aB aS aZ a.yn a.yd V hpi.yn hpi.yd (hEw.below hv ai);have hmem:a∈x.s.pts:=fV ha;obtain⟨f0,f1,f2,f3⟩:=id F0;by_cases hx:dH a.xn a.xd=0
   ·rw[hx,qM] at CX;by_cases hy:dH a.yn a.yd=0
    ·rw[hy,qM] at CY;have DF:=fun V=>GA y a.yn a.yd V (by omega) (by omega) hy;have HR:Hid (rZ x.s.pts (k+1)):=hrt.snoc ha hx hy;have HO:Hid ((x.s.pts.take (k+1)).any (fun a=>decide (kK y a.yn a.yd<=0))=((x.s.pts.take k).any (fun a=>decide (kK y a.yn a.yd<=0))||decide (kK y a.yn a.yd<=0))):=Jq _ _ k a ha;have HU:Hid ((x.s.pts.take (k+1)).any (fun a=>decide (0<=kK y a.yn a.yd))=((x.s.pts.take k).any (fun a=>decide (0<=kK y a.yn a.yd))||decide (0<=kK y a.yn a.yd))):=Jq _ _ k a ha;clear hrt hx hy ha;generalize kK y a.yn a.yd=dn at DF HO HU;generalize (x.s.pts.take k).any (fun a=>decide (kK y a.yn a.yd<=0))=ov at HO⊢;generalize (x.s.pts.take k).any (fun a=>decide (0<=kK y a.yn a.yd))=un at HU⊢;go_upto_region 10 with(first|(go_at_call 134;refine(DF _).mono ?_;rintro e w4 ⟨rfl,b4⟩)|(go_at_call_of 133 a.yn;refine(CY _ (aA b1 b2)).mono ?_;rintro e w3 ⟨rfl,b3⟩;obtain⟨k0,k1,k2,k3⟩:=(F0.below b2 ai).below b3 ai)|(go_at_call_of 133 a.xn;refine(CX _ b1).mono ?_;rintro e w2 ⟨rfl,b2⟩;obtain⟨g0,g1,g2,g3⟩:=F0.below b2 ai));have bb:=aA hb (aA (aA (aA b1 b2) b3) b4);clear F0 b1 b2 b3 b4 f0 f1 f2 f3 CX CY DF;by_cases hd1:dn<=0
     ·by_cases hd2:0<=dn
      ·cases ov with
       |true=>
        cases un with
        |true=>
         go_wp2_with fail
         go_roundw
         case rel=>exact⟨k+1,by omega,by simp,by rw[HO.out];simp,by rw[HU.out];simp,HR.out,bb⟩
         case measure=>simp[intOf];omega
        |false=>
         go_wp2_with fail
         go_roundw
         case rel=>exact⟨k+1,by omega,by simp,by rw[HO.out];simp,by rw[HU.out];simp[hd2],HR.out,bb⟩
         case measure=>simp[intOf];omega
       |false=>
        cases un with
        |true=>
         go_wp2_with fail
         go_roundw
         case rel=>exact⟨k+1,by omega,by simp,by rw[HO.out];simp[hd1],by rw[HU.out];simp,HR.out,bb⟩
         case measure=>simp[intOf];omega
        |false=>
         go_wp2_with fail
         go_roundw
         case rel=>exact⟨k+1,by omega,by simp,by rw[HO.out];simp[hd1],by rw[HU.out];simp[hd2],HR.out,bb⟩
         case measure=>simp[intOf];omega
      ·cases ov with
       |true=>
        cases un with
        |true=>
         go_wp2_with fail
         go_roundw
         case rel=>exact⟨k+1,by omega,by simp,by rw[HO.out];simp,by rw[HU.out];simp,HR.out,bb⟩
         case measure=>simp[intOf];omega
        |false=>
         go_wp2_with fail
         go_roundw
         case rel=>exact⟨k+1,by omega,by simp,by rw[HO.out];simp,by rw[HU.out];simp[hd2],HR.out,bb⟩
         case measure=>simp[intOf];omega
       |false=>
        cases un with
        |true=>
         go_wp2_with fail
         go_roundw
         case rel=>exact⟨k+1,by omega,by simp,by rw[HO.out];simp[hd1],by rw[HU.out];simp,HR.out,bb⟩
         case measure=>simp[intOf];omega
        |false=>
         go_wp2_with fail
         go_roundw
         case rel=>exact⟨k+1,by omega,by simp,by rw[HO.out];simp[hd1],by rw[HU.out];simp[hd2],HR.out,bb⟩
         case measure=>simp[intOf];omega
     ·by_cases hd2:0<=dn
      ·cases ov with
       |true=>
        cases un with
        |true=>
         go_wp2_with fail
         go_roundw
         case rel=>exact⟨k+1,by omega,by simp,by rw[HO.out];simp,by rw[HU.out];simp,HR.out,bb⟩
         case measure=>simp[intOf];omega
        |false=>
         go_wp2_with fail
         go_roundw
         case rel=>exact⟨k+1,by omega,by simp,by rw[HO.out];simp,by rw[HU.out];simp[hd2],HR.out,bb⟩
         case measure=>simp[intOf];omega
       |false=>
        cases un with
        |true=>
         go_wp2_with fail
         go_roundw
         case rel=>exact⟨k+1,by omega,by simp,by rw[HO.out];simp[hd1],by rw[HU.out];simp,HR.out,bb⟩
         case measure=>simp[intOf];omega
        |false=>
         go_wp2_with fail
         go_roundw
         case rel=>exact⟨k+1,by omega,by simp,by rw[HO.out];simp[hd1],by rw[HU.out];simp[hd2],HR.out,bb⟩
         case measure=>simp[intOf];omega
      ·exact absurd (show 0<=dn by omega) hd2
    ·obtain⟨ad,Nb⟩:=gM aB aS aZ (show dH a.yn a.yd=2\/dH a.yn a.yd=3 by have:=fC a.yn a.yd;omega);rw[Nb] at CY;have hr:T=false:=HT.out.symm.trans (yL hmem (fun h=>hy h.2));subst hr;clear Nb hrt ha hx hy;go_wp2_with(first|(go_at_call_of 133 a.yn;refine(CY _ (aA b1 b2)).mono ?_;rintro e w3 ⟨rfl,b3⟩)|(go_at_call_of 133 a.xn;refine(CX _ b1).mono ?_;rintro e w2 ⟨rfl,b2⟩;obtain⟨g0,g1,g2,g3⟩:=F0.below b2 ai));go_ret;exact⟨rfl,aA b0 (aA hb (aA (aA b1 b2) b3))⟩
   ·obtain⟨ad,Nb⟩:=gM aB aS aZ (show dH a.xn a.xd=2\/dH a.xn a.xd=3 by have:=fC a.xn a.xd;omega);rw[Nb] at CX;have hr:T=false:=HT.out.symm.trans (yL hmem (fun h=>hx h.1));subst hr;clear Nb hrt ha hx;go_wp2_with(first|(go_at_call_of 133 a.xn;refine(CX _ b1).mono ?_;rintro e w2 ⟨rfl,b2⟩;obtain⟨g0,g1,g2,g3⟩:=F0.below b2 ai));go_ret;exact⟨rfl,aA b0 (aA hb (aA b1 b2))⟩
  ·obtain rfl:k=x.s.pts.length:=by omega
   have hr:T=(Qe x.s.pts y && Gz x.s.pts y):=HT.out.symm.trans (NH (by omega) (by omega) hrt);unfold Qe Gz at hr;rw[List.take_length];have HR:=aj hr;clear hr hrt;generalize x.s.pts.any (fun a=>decide (kK y a.yn a.yd<=0))=ov at HR⊢;generalize x.s.pts.any (fun a=>decide (0<=kK y a.yn a.yd))=un at HR⊢;cases ov with
   |true=>
    go_wp2_with fail;go_ret;exact⟨by rw[HR.out];rfl,aA b0 hb⟩
   |false=>
    go_wp2_with fail;go_ret;exact⟨by rw[HR.out];rfl,aA b0 hb⟩
end
end Go.Proofs.YtecneflbncjhpaaGreatDoor

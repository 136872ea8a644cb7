/- Parts of the proof. -/
import Derived.Test.YtjfiehbcamfdfaaGreatDoorQz2
namespace Go.Proofs.YtjfiehbcamfdfaaGreatDoor
open Go.Proofs.Tryz
set_option maxHeartbeats 16000000
section
open Go.RowKit
set_option maxRecDepth 20000
def qV (l:List Qt)(k:Nat):Prop:=∀a∈l.take k,dz a.xn a.xd=0/\dz a.yn a.yd=0
theorem I6 (l:List Qt)(f:Qt->Bool)(k:Nat)(a:Qt)(h:l[k]? =some a):(l.take (k+1)).any f=((l.take k).any f||f a):=by
 rw[List.take_add_one,h];simp
theorem qV.snoc {l:List Qt}{k:Nat}{a:Qt}(h:qV l k)(ha:l[k]? =some a)(h1:dz a.xn a.xd=0)(h2:dz a.yn a.yd=0):qV l (k+1):=fun b hb=>by
 rw[List.take_add_one,ha] at hb;rcases List.mem_append.1 hb with hb|hb
 ·exact h b hb
 ·simp at hb;subst hb;exact⟨h1,h2⟩
theorem xS {l:List Qt}{y:Int}{a:Qt}(ha:a∈l)(h:¬(dz a.xn a.xd=0/\dz a.yn a.yd=0)):aI l y=false:=by
 unfold aI;split
 ·rfl
 ·have:l.all (fun a=>decide (dz a.xn a.xd=0) && decide (dz a.yn a.yd=0))=false:=by
   rw[List.all_eq_false];exact⟨a,ha,by simpa using h⟩
  rw[this];rfl
theorem M0 {l:List Qt}{y:Int}(h1:¬y< -1073741824)(h2:¬1073741824<=y)(h:qV l l.length):aI l y=(Oq l y && Fg l y):=by
 unfold aI;rw[if_neg (by omega)];have:l.all (fun a=>decide (dz a.xn a.xd=0) && decide (dz a.yn a.yd=0))=true:=by
  rw[List.all_eq_true];intro a ha;have:=h a (by rw[List.take_length];exact ha);simp[this]
 rw[this];rfl
theorem gV.box (w:ag)(x:P5)(t:TypeId):Ot (w.alloc (.cells (wH x) t)) w.heap.size 0 x/\Below w.heap.size w (w.alloc (.cells (wH x) t)):=⟨Ot.new w x t,aU w _⟩
theorem xU (aB aS aZ:Addr)(x:P5)(y:Int)(w:ag)(hl:x.s.pts.length<=1000)(h:eO w x.o x.s.pts)(hE:E3 aB aS aZ w):
  ax 87 #[UC x,aa y] w fun e W=>e=.returned (.bool (aI x.s.pts y))/\Below w.heap.size w W:=by
 obtain⟨C0,b0⟩:=gV.box w x 138;by_cases h1:y< -1073741824
 ·have hr:aI x.s.pts y=false:=by unfold aI;rw[if_pos (.inl h1)]
  rw[hr];go_enter func87,ntmps87;go_wp2;go_ret;exact⟨rfl,b0⟩
 by_cases h2:1073741824<=y
 ·have hr:aI x.s.pts y=false:=by unfold aI;rw[if_pos (.inr h2)]
  rw[hr];go_enter func87,ntmps87;go_wp2;go_ret;exact⟨rfl,b0⟩
 obtain⟨T,hT⟩:∃T,aI x.s.pts y=T:=⟨_,rfl⟩;rw[hT];have HT:=aj hT;clear hT;go_enter func87,ntmps87;go_upto_region 1 with fail;obtain⟨U,hU⟩:∃U,w.alloc (.cells (wH x) 138)=U:=⟨_,rfl⟩;rw[hU] at C0 b0⊢;clear hU;have hU:=h.below b0 ai;have Lp:=hE.below b0 ai;obtain⟨c0,c1,c2,c3,c4⟩:=C0;go_wp2_with fail;clear c0 c1 c2 c3 c4
 go_loopw [5,6,20] (fun u v i wr=>∃k:Nat,k<=x.s.pts.length/\i=aa k/\u=.bool ((x.s.pts.take k).any fun a=>decide (jQ y a.yn a.yd<=0))/\v=.bool ((x.s.pts.take k).any fun a=>decide (0<=jQ y a.yn a.yd))/\qV x.s.pts k/\Below U.heap.size U wr) (fun _ _ i _=>x.s.pts.length-(intOf i).toNat)
 case atStart=>exact⟨0,Nat.zero_le _,rfl,rfl,rfl,(fun a ha=>by simp at ha),Below.refl _ _⟩
 case round=>
  obtain⟨k,hk,rfl,rfl,rfl,hrt,hb⟩:=hrel;by_cases hlt:k<x.s.pts.length
  ·have hlt':(k:Int)<(x.s.pts.length:Int):=by omega
   obtain⟨a,ha⟩:∃a,x.s.pts[k]? =some a:=⟨_,List.getElem?_eq_getElem hlt⟩;obtain⟨b,off,ho,q0,q1,q2,q3,hpi⟩:=hU.below hb ai k a ha;rw[ho];have hEw:=Lp.below hb ai;have F0:=Four.new wr (aa a.xn) (aa a.xd) (aa a.yn) (aa a.yd) 177;have b1:=aU wr (.cells #[aa a.xn,aa a.xd,aa a.yn,aa a.yd] 177);have CX:=fun V (hv:Below wr.heap.size wr V)=>iq aB aS aZ a.xn a.xd V hpi.xn hpi.xd (hEw.below hv ai);have CY:=fun V (hv:Below wr.heap.size wr V)=>iq aB aS aZ a.yn a.yd V hpi.yn hpi.yd (hEw.below hv ai);have hmem:a∈x.s.pts:=List.mem_of_getElem? ha;obtain⟨f0,f1,f2,f3⟩:=id F0;by_cases hx:dz a.xn a.xd=0
   ·rw[hx,pO] at CX;by_cases hy:dz a.yn a.yd=0
    ·rw[hy,pO] at CY;have DF:=fun V=>Fh y a.yn a.yd V (by omega) (by omega) hy;have HR:Hid (qV x.s.pts (k+1)):=hrt.snoc ha hx hy;have HO:Hid ((x.s.pts.take (k+1)).any (fun a=>decide (jQ y a.yn a.yd<=0))=((x.s.pts.take k).any (fun a=>decide (jQ y a.yn a.yd<=0))||decide (jQ y a.yn a.yd<=0))):=I6 _ _ k a ha;have HU:Hid ((x.s.pts.take (k+1)).any (fun a=>decide (0<=jQ y a.yn a.yd))=((x.s.pts.take k).any (fun a=>decide (0<=jQ y a.yn a.yd))||decide (0<=jQ y a.yn a.yd))):=I6 _ _ k a ha;clear hrt hx hy ha;generalize jQ y a.yn a.yd=dn at DF HO HU;generalize (x.s.pts.take k).any (fun a=>decide (jQ y a.yn a.yd<=0))=ov at HO⊢;generalize (x.s.pts.take k).any (fun a=>decide (0<=jQ y a.yn a.yd))=un at HU⊢;go_upto_region 10 with(first|(go_at_call 133;refine(DF _).mono ?_;rintro e w4 ⟨rfl,b4⟩)|(go_at_call_of 132 a.yn;refine(CY _ (aA b1 b2)).mono ?_;rintro e w3 ⟨rfl,b3⟩;obtain⟨k0,k1,k2,k3⟩:=(F0.below b2 ai).below b3 ai)|(go_at_call_of 132 a.xn;refine(CX _ b1).mono ?_;rintro e w2 ⟨rfl,b2⟩;obtain⟨g0,g1,g2,g3⟩:=F0.below b2 ai));have bb:=aA hb (aA (aA (aA b1 b2) b3) b4);clear F0 b1 b2 b3 b4 f0 f1 f2 f3 CX CY DF;by_cases hd1:dn<=0
     ·by_cases hd2:0<=dn
      ·cases ov with
       |true=>
        cases un with
        |true=>
         go_wp2_with fail
         go_roundw
         case rel=>exact⟨k+1,by omega,by simp,by rw[HO.out];simp,by rw[HU.out];simp,HR.out,bb⟩
         case measure=>simp[intOf];omega
        |false=>
         go_wp2_with fail
         go_roundw
         case rel=>exact⟨k+1,by omega,by simp,by rw[HO.out];simp,by rw[HU.out];simp[hd2],HR.out,bb⟩
         case measure=>simp[intOf];omega
       |false=>
        cases un with
        |true=>
         go_wp2_with fail
         go_roundw
         case rel=>exact⟨k+1,by omega,by simp,by rw[HO.out];simp[hd1],by rw[HU.out];simp,HR.out,bb⟩
         case measure=>simp[intOf];omega
        |false=>
         go_wp2_with fail
         go_roundw
         case rel=>exact⟨k+1,by omega,by simp,by rw[HO.out];simp[hd1],by rw[HU.out];simp[hd2],HR.out,bb⟩
         case measure=>simp[intOf];omega
      ·cases ov with
       |true=>
        cases un with
        |true=>
         go_wp2_with fail
         go_roundw
         case rel=>exact⟨k+1,by omega,by simp,by rw[HO.out];simp,by rw[HU.out];simp,HR.out,bb⟩
         case measure=>simp[intOf];omega
        |false=>
         go_wp2_with fail
         go_roundw
         case rel=>exact⟨k+1,by omega,by simp,by rw[HO.out];simp,by rw[HU.out];simp[hd2],HR.out,bb⟩
         case measure=>simp[intOf];omega
       |false=>
        cases un with
        |true=>
         go_wp2_with fail
         go_roundw
         case rel=>exact⟨k+1,by omega,by simp,by rw[HO.out];simp[hd1],by rw[HU.out];simp,HR.out,bb⟩
         case measure=>simp[intOf];omega
        |false=>
         go_wp2_with fail
         go_roundw
         case rel=>exact⟨k+1,by omega,by simp,by rw[HO.out];simp[hd1],by rw[HU.out];simp[hd2],HR.out,bb⟩
         case measure=>simp[intOf];omega
     ·by_cases hd2:0<=dn
      ·cases ov with
       |true=>
        cases un with
        |true=>
         go_wp2_with fail
         go_roundw
         case rel=>exact⟨k+1,by omega,by simp,by rw[HO.out];simp,by rw[HU.out];simp,HR.out,bb⟩
         case measure=>simp[intOf];omega
        |false=>
         go_wp2_with fail
         go_roundw
         case rel=>exact⟨k+1,by omega,by simp,by rw[HO.out];simp,by rw[HU.out];simp[hd2],HR.out,bb⟩
         case measure=>simp[intOf];omega
       |false=>
        cases un with
        |true=>
         go_wp2_with fail
         go_roundw
         case rel=>exact⟨k+1,by omega,by simp,by rw[HO.out];simp[hd1],by rw[HU.out];simp,HR.out,bb⟩
         case measure=>simp[intOf];omega
        |false=>
         go_wp2_with fail
         go_roundw
         case rel=>exact⟨k+1,by omega,by simp,by rw[HO.out];simp[hd1],by rw[HU.out];simp[hd2],HR.out,bb⟩
         case measure=>simp[intOf];omega
      ·exact absurd (show 0<=dn by omega) hd2
    ·obtain⟨ad,GQ⟩:=fG aB aS aZ (show dz a.yn a.yd=2\/dz a.yn a.yd=3 by have:=eu a.yn a.yd;omega);rw[GQ] at CY;have hr:T=false:=HT.out.symm.trans (xS hmem (fun h=>hy h.2));subst hr;clear GQ hrt ha hx hy;go_wp2_with(first|(go_at_call_of 132 a.yn;refine(CY _ (aA b1 b2)).mono ?_;rintro e w3 ⟨rfl,b3⟩)|(go_at_call_of 132 a.xn;refine(CX _ b1).mono ?_;rintro e w2 ⟨rfl,b2⟩;obtain⟨g0,g1,g2,g3⟩:=F0.below b2 ai));go_ret;exact⟨rfl,aA b0 (aA hb (aA (aA b1 b2) b3))⟩
   ·obtain⟨ad,GQ⟩:=fG aB aS aZ (show dz a.xn a.xd=2\/dz a.xn a.xd=3 by have:=eu a.xn a.xd;omega);rw[GQ] at CX;have hr:T=false:=HT.out.symm.trans (xS hmem (fun h=>hx h.1));subst hr;clear GQ hrt ha hx;go_wp2_with(first|(go_at_call_of 132 a.xn;refine(CX _ b1).mono ?_;rintro e w2 ⟨rfl,b2⟩;obtain⟨g0,g1,g2,g3⟩:=F0.below b2 ai));go_ret;exact⟨rfl,aA b0 (aA hb (aA b1 b2))⟩
  ·obtain rfl:k=x.s.pts.length:=by omega
   have hr:T=(Oq x.s.pts y && Fg x.s.pts y):=HT.out.symm.trans (M0 (by omega) (by omega) hrt);unfold Oq Fg at hr;rw[List.take_length];have HR:=aj hr;clear hr hrt;generalize x.s.pts.any (fun a=>decide (jQ y a.yn a.yd<=0))=ov at HR⊢;generalize x.s.pts.any (fun a=>decide (0<=jQ y a.yn a.yd))=un at HR⊢;cases ov with
   |true=>
    go_wp2_with fail;go_ret;exact⟨by rw[HR.out];rfl,aA b0 hb⟩
   |false=>
    go_wp2_with fail;go_ret;exact⟨by rw[HR.out];rfl,aA b0 hb⟩
end
section
open Go.RowKit
def cells5:List P5->List ah
 |[]=>[]
 |a::r=>aa a.nd:: .slice a.o a.s.pts.length a.cap:: .string a.s.fill:: .string a.s.rule::aa a.lv::cells5 r
theorem A9:∀l:List P5,(cells5 l).length=l.length*5
 |[]=>rfl
 |x::r=>by simp[cells5,A9 r];omega
theorem tH:∀(l:List P5) (i:Nat) (x:P5),l[i]? =some x->(cells5 l)[i*5]? =some (aa x.nd)/\(cells5 l)[i*5+1]? =some (.slice x.o x.s.pts.length x.cap)/\(cells5 l)[i*5+2]? =some (.string x.s.fill)/\(cells5 l)[i*5+3]? =some (.string x.s.rule)/\(cells5 l)[i*5+4]? =some (aa x.lv)
 |[],i,x,h=>by simp at h
 |y::r,0,x,h=>by simp at h;subst h;exact⟨rfl,rfl,rfl,rfl,rfl⟩
 |y::r,i+1,x,h=>by
  have h1:=tH r i x (by simpa using h);have e:(i+1)*5=i*5+5:=by omega
  rw[e];exact h1
theorem tJ:∀(l:List P5) (j:Nat) (u:ah),(cells5 l)[j]? =some u->∃i x,l[i]? =some x/\((j=i*5/\u=aa x.nd)\/(j=i*5+1/\u=.slice x.o x.s.pts.length x.cap)\/(j=i*5+2/\u=.string x.s.fill)\/(j=i*5+3/\u=.string x.s.rule)\/(j=i*5+4/\u=aa x.lv))
 |[],j,u,h=>by simp[cells5] at h
 |x::r,0,u,h=>by simp[cells5] at h;exact⟨0,x,rfl,.inl ⟨rfl,h.symm⟩⟩
 |x::r,1,u,h=>by simp[cells5] at h;exact⟨0,x,rfl,.inr (.inl ⟨rfl,h.symm⟩)⟩
 |x::r,2,u,h=>by simp[cells5] at h;exact⟨0,x,rfl,.inr (.inr (.inl ⟨rfl,h.symm⟩))⟩
 |x::r,3,u,h=>by simp[cells5] at h;exact⟨0,x,rfl,.inr (.inr (.inr (.inl ⟨rfl,h.symm⟩)))⟩
 |x::r,4,u,h=>by simp[cells5] at h;exact⟨0,x,rfl,.inr (.inr (.inr (.inr ⟨rfl,h.symm⟩)))⟩
 |x::r,j+5,u,h=>by
  have h':(cells5 r)[j]? =some u:=by simpa[cells5] using h
  obtain⟨i,y,h1,h2⟩:=tJ r j u h';refine⟨i+1,y,by simpa using h1,?_⟩;rcases h2 with⟨a,b⟩|⟨a,b⟩|⟨a,b⟩|⟨a,b⟩|⟨a,b⟩
  ·exact .inl ⟨by omega,b⟩
  ·exact .inr (.inl ⟨by omega,b⟩)
  ·exact .inr (.inr (.inl ⟨by omega,b⟩))
  ·exact .inr (.inr (.inr (.inl ⟨by omega,b⟩)))
  ·exact .inr (.inr (.inr (.inr ⟨by omega,b⟩)))
theorem M6 (l:List P5):∀u∈cells5 l,u.oneCell'=true:=fun u hu=>by
 obtain⟨j,hj⟩:=List.getElem?_of_mem hu;obtain⟨i,x, -,⟨-,rfl⟩|⟨-,rfl⟩|⟨-,rfl⟩|⟨-,rfl⟩|⟨-,rfl⟩⟩:=tJ l j u hj<;>rfl
theorem I7 {w:ag}{a:Addr}{l:List P5}(h:gV w (some a) l):∀j u,(cells5 l)[j]? =some u->w.cell? (a.add j)=some u:=fun j u hu=>by
 obtain⟨i,x,hx,h2⟩:=tJ l j u hu;obtain⟨b,off,h3,c0,c1,c2,c3,c4⟩:=h i x hx;cases h3;rw[addr_add];rcases h2 with⟨rfl,rfl⟩|⟨rfl,rfl⟩|⟨rfl,rfl⟩|⟨rfl,rfl⟩|⟨rfl,rfl⟩
 ·exact c0
 ·rw[<- Nat.add_assoc];exact c1
 ·rw[<- Nat.add_assoc];exact c2
 ·rw[<- Nat.add_assoc];exact c3
 ·rw[<- Nat.add_assoc];exact c4
def Own5 (w:ag)(base:Nat)(v:ah)(l:List P5):Prop:=w.ownsRow base 138 5 v l.length (cells5 l)
structure yN (w:ag)(o:Option Addr)(cap:Nat)(l:List P5):Prop where
 at_:gV w o l
 le:l.length<=cap
 no:o=none->cap=0
theorem yN.below {w w':ag}{o:Option Addr}{cap:Nat}{l:List P5}(h:yN w o cap l)(hb:Below w.heap.size w w'):yN w' o cap l:=⟨h.at_.below hb ai,h.le,h.no⟩
structure I8 (w:ag)(b:Nat)(l:List P5):Prop where
 c:∀i x,l[i]? =some x->Ot w b (i*5) x
 f:∀j,j<l.length*5->w.frozen? ⟨b,j,none⟩=false
theorem I8.at_ {w:ag}{b:Nat}{l:List P5}(h:I8 w b l):gV w (some ⟨b,0,none⟩) l:=fun i x hx=>⟨b,0,rfl,by rw[Nat.zero_add];exact h.c i x hx⟩
theorem I8.below {w w':ag}{b:Nat}{l:List P5}(h:I8 w b l)(hb:Below w.heap.size w w')(hl:b<w.heap.size):I8 w' b l:=⟨fun i x hx=>(h.c i x hx).below hb ai,fun j hj=>(hb.frozen (p:=⟨b,j,none⟩) hl).trans (h.f j hj)⟩
theorem Own5.rw {w:ag}{base:Nat}{v:ah}{l:List P5}(h:Own5 w base v l):(v=.slice none 0 0/\l=[])\/∃b cap,v=.slice (some ⟨b,0,none⟩) l.length cap/\base<=b/\b<w.heap.size/\l.length<=cap/\I8 w b l:=by
 have hO:=h;rcases h.2 with⟨rfl,h0⟩|⟨g,cap,cur,rfl,hg,hblk,hle,hsz,hfr⟩
 ·exact .inl ⟨rfl,List.length_eq_zero_iff.1 h0⟩
 ·refine .inr ⟨g,cap,rfl,hg,(Array.getElem?_eq_some_iff.1 hblk).1,hle,?_,?_⟩
  ·intro i x hx;have hc:∀j u,(cells5 l)[j]? =some u->w.cell? (ak g j)=some u:=fun j u hj=>by
    have:=World.ownsRow.cells hO (g:=g) rfl j u hj;rw[addr_add,Nat.zero_add] at this;exact this
   obtain⟨h0,h1,h2,h3,h4⟩:=tH l i x hx;exact⟨hc _ _ h0,hc _ _ h1,hc _ _ h2,hc _ _ h3,hc _ _ h4⟩
  ·intro j hj;unfold World.frozen?;rw[hblk];simp
theorem a2G:(prog.info? 138).map (fun i=>(i.zero,i.size,i.bytes))=some (some (.agg #[aa 0,.slice none 0 0,.string ⟨#[]⟩,.string ⟨#[]⟩,aa 0]),5,72):=by kernel_rfl
theorem I9 (w:ag)(o:Option Addr)(cap:Nat)(l:List P5)(h:yN w o cap l)(hl:l.length<=1000):
  ax 85 #[.slice o l.length cap] w fun e w'=>∃v,e=.returned v/\Own5 w' w.heap.size v l/\Below w.heap.size w w':=by
 have q22:∀(w:ag) (a:Option Addr) (n c n' c':Nat),(binOp .eql 73 (.slice a n c) (.slice none n' c')).run prog w=.ok (.bool a.isNone) w:=fun w a n c n' c'=>Lib.run_eql_slice_nil w _ _ a n c n' c' underlying73;obtain⟨i0,hi,hz0,hz1,hz2⟩:=info_parts a2G;cases o with
 |none=>
  have hc:=h.no rfl;have hz:l=[]:=List.length_eq_zero_iff.1 (by have:=h.le;omega);subst hz;go_enter func85,ntmps85;go_wp2_with fail;go_ret;exact⟨_,rfl,World.ownsRow_nil _ _ _ _,Below.refl _ _⟩
 |some a=>
  have HN:Hid (∀j u,(cells5 l)[j]? =some u->(w.alloc (.cells #[] 138)).cell? (a.add j)=some u):=fun j u hj=>((aU w (.cells #[] 138)).cell (aC (I7 h.at_ j u hj))).trans (I7 h.at_ j u hj);go_enter func85,ntmps85;go_wp2_with(at_builtin;refine wpList_append_own _ rfl _ _ 73 rfl w.heap.size 138 i0 (.agg #[aa 0,.slice none 0 0,.string ⟨#[]⟩,.string ⟨#[]⟩,aa 0]) 5 72 underlying73 hi hz0 hz1 hz2 rfl (by decide) _ _ _ rfl (World.ownsRow_made w #[] 0 ai (Nat.zero_le _) (by simp)) a l.length cap (cells5 l) rfl (A9 l) HN.out (M6 l) (by simp only[maxLen];omega) (by omega) (by simp) ?_;intro v7 w7 kF lH _);go_ret;refine⟨_,rfl,?_,((Below.refl _ w).alloc ai _).grown lH (by simp) (fun k hk=>by have hk':some w.heap.size=some k:=hk;cases hk';exact Nat.le_refl _)⟩;simpa[Own5] using kF
theorem oJ (f:Nat)(fn:Func)(hf:prog.funcs[f]? =some fn)(h1:(fn.name=="runtime.NumGoroutine")=false)(h2:fn.body.isNone=false)(av:Array ah)(w:ag):Sem.run prog (callFunc f av) w=.ok (.enter f av) w:=by
 unfold callFunc;simp only[Sem.run_bind,run_program,Result.andThen_ok,hf,h1,h2];rfl
end
section
open Go.RowKit
set_option maxRecDepth 20000
abbrev rfV (fn By:Nat):ah:=.func (.func fn) #[] #[ay By]
def Z8 (base fn By:Nat)(w:ag)(l:List P5)(q:P5->Bool):Prop:=∀x∈l,∀V,Below base w V->ax fn #[UC x,ay By] V fun e W=>e=.returned (.bool (q x))/\Below V.heap.size V W
theorem M7 (aB aS aZ:Addr)(x:P5)(y:Int)(By:Nat)(w:ag)(hl:x.s.pts.length<=1000)(h:eO w x.o x.s.pts)(hE:E3 aB aS aZ w)(hy:w.cell? (ak By 0)=some (aa y)):
  ax 86 #[UC x,ay By] w fun e W=>e=.returned (.bool (!aI x.s.pts y))/\Below w.heap.size w W:=by
 have b0:=aU w (.cells (wH x) 138);have RE:=xU aB aS aZ x y (w.alloc (.cells (wH x) 138)) hl (h.below b0 ai) (hE.below b0 ai);have hy1:=(b0.cell (aC hy)).trans hy;go_enter func86,ntmps86;go_wp2_with(go_at_call 87;refine RE.mono ?_;rintro e w1 ⟨rfl,b1⟩);go_ret;exact⟨rfl,aA b0 b1⟩
def aay (q:P5->Bool)(l:List P5)(e:Ending):Prop:=((∀x∈l,q x=false)/\e=.returned (aa (-1)))\/∃k x,l[k]? =some x/\(∀y∈l.take k,q y=false)/\q x=true/\e=.returned (aa (k:Nat))
theorem Ia (base fn By:Nat)(hcf:∀(av:Array ah) (w:ag),Sem.run prog (callFunc fn av) w=.ok (.enter fn av) w)(q:P5->Bool)(l:List P5)(o:Option Addr)(cap:Nat)(w0 w:ag)(hl:l.length<=1000)(h:gV w o l)(hb0:Below base w0 w)(hbase:base<=w.heap.size)(hq:Z8 base fn By w0 l q):
  ax 131 #[.slice o l.length cap,rfV fn By] w fun e W=>aay q l e/\Below w.heap.size w W:=by
 go_enter func131,ntmps131;go_wp2
 go_loopw [8] (fun i wr=>∃k:Nat,k<=l.length/\i=aa k/\(∀x∈l.take k,q x=false)/\Below w.heap.size w wr) (fun i _=>l.length-(intOf i).toNat)
 case atStart=>exact⟨0,Nat.zero_le _,rfl,(fun a ha=>by simp at ha),Below.refl _ _⟩
 case round=>
  obtain⟨k,hk,rfl,hrt,hb⟩:=hrel;by_cases hlt:k<l.length
  ·have hlt':(k:Int)<(l.length:Int):=by omega
   obtain⟨x,hx⟩:∃x,l[k]? =some x:=⟨_,List.getElem?_eq_getElem hlt⟩;have hmem:x∈l:=List.mem_of_getElem? hx;obtain⟨b,off,rfl,hC⟩:=h.below hb ai k x hx;have AQ:=hq x hmem wr (hb0.trans (hb.mono hbase));obtain⟨c0,c1,c2,c3,c4⟩:=hC;have HX:=aj hx;clear hx;cases Ug:q x with
   |false=>
    rw[Ug] at AQ;go_wp2_with(refine AQ.mono ?_;rintro e w1 ⟨rfl,b1⟩)
    go_roundw
    case rel=>exact⟨k+1,by omega,by go_num,fun y hy=>by rw[List.take_add_one,HX.out] at hy;rcases List.mem_append.1 hy with hy|hy;exact hrt y hy;simp at hy;subst hy;exact Ug,aA hb b1⟩
    case measure=>simp[intOf];omega
   |true=>
    rw[Ug] at AQ;go_wp2_with(refine AQ.mono ?_;rintro e w1 ⟨rfl,b1⟩);go_ret;exact⟨.inr ⟨k,x,HX.out,hrt,Ug,rfl⟩,aA hb b1⟩
  ·obtain rfl:k=l.length:=by omega
   go_wp2_with fail;go_ret;rw[List.take_length] at hrt;exact⟨.inl ⟨hrt,rfl⟩,hb⟩
theorem CV (w:ag)(ty:TypeId)(b o n c:Nat)(hn:0<n)(hc:∀j,j<n*5->(w.cell? (ak b (o+j))).isSome=true)(hf:∀j,j<n*5->w.frozen? ⟨b,o+j,none⟩=false):
  ∃vs:List ah,vs.length=n*5/\(Builtin.clear_ #[73] ty #[.slice (some ⟨b,o,none⟩) n c]).run prog w=.ok (.tuple #[]) (w.setCells b o vs):=by
 have hv:∀w,(zeroValue 138).run prog w=.ok (.agg #[aa 0,.slice none 0 0,.string ⟨#[]⟩,.string ⟨#[]⟩,aa 0]) w:=fun w=>by kernel_rfl
 have hlen:(Builtin.zeroCells (Value.agg #[aa 0,.slice none 0 0,.string ⟨#[]⟩,.string ⟨#[]⟩,aa 0]).cells n).toList.length=n*5:=by
  simp[Builtin.zeroCells,Value.cells]
 refine⟨(Builtin.zeroCells (Value.agg #[aa 0,.slice none 0 0,.string ⟨#[]⟩,.string ⟨#[]⟩,aa 0]).cells n).toList,hlen,?_⟩;have hone:∀v∈(Builtin.zeroCells (Value.agg #[aa 0,.slice none 0 0,.string ⟨#[]⟩,.string ⟨#[]⟩,aa 0]).cells n).toList,v.oneCell'=true:=by
  intro v hv;simp only[Builtin.zeroCells,Value.cells,Array.toList_map,List.mem_map] at hv;obtain⟨i, -,rfl⟩:=hv;have hi:i % 5<5:=Nat.mod_lt _ (by decide);show(#[Value.int .i64 0,.slice none 0 0,.string ⟨#[]⟩,.string ⟨#[]⟩,aa 0][i % 5]!).oneCell'=true;generalize i % 5=j at hi
  match j,hi with
  |0,_=>rfl
  |1,_=>rfl
  |2,_=>rfl
  |3,_=>rfl
  |4,_=>rfl
 have hst:=run_storeCells_cells (P:=prog) b o (Builtin.zeroCells (Value.agg #[aa 0,.slice none 0 0,.string ⟨#[]⟩,.string ⟨#[]⟩,aa 0]).cells n).toList 0 w (by rw[hlen];simpa using hc) (by rw[hlen];simpa using hf) hone;simp only[Nat.add_zero] at hst;obtain⟨m,rfl⟩:∃m,n=m+1:=⟨n-1,by omega⟩;simp[Builtin.clear_,run_underlying underlying73,hv,hst]
theorem fF {B b:Nat}{a:ag}(hb:B<=b):∀(vs:List ah) (o:Nat) (w:ag),Below B a w->Below B a (w.setCells b o vs)
 |[],_,_,h=>h
 |_::vs,_,_,h=>fF hb vs _ _ (h.setCell hb _)
abbrev UK (w:ag)(b o:Nat)(x:P5):ag:=((((w.setCell ⟨b,o,none⟩ (aa x.nd)).setCell ⟨b,o+1,none⟩ (.slice x.o x.s.pts.length x.cap)).setCell ⟨b,o+2,none⟩ (.string x.s.fill)).setCell ⟨b,o+3,none⟩ (.string x.s.rule)).setCell ⟨b,o+4,none⟩ (aa x.lv)
theorem Ox (w:ag)(b o:Nat)(x:P5):UK w b o x=w.setCells b o [aa x.nd,.slice x.o x.s.pts.length x.cap,.string x.s.fill,.string x.s.rule,aa x.lv]:=rfl
theorem I8.set {w:ag}{b:Nat}{l:List P5}(h:I8 w b l){i:Nat}(hi:i<l.length)(x:P5):I8 (UK w b (i*5) x) b (l.set i x):=by
 rw[Ox];have old:=h.c i l[i] (List.getElem?_eq_getElem hi);have hin:=World.cell?_setCells_in b [aa x.nd,.slice x.o x.s.pts.length x.cap,.string x.s.fill,.string x.s.rule,aa x.lv] (i*5) w (fun j hj=>by
  have hj':j<5:=hj
  match j,hj' with
  |0,_=>rw[Nat.add_zero,old.c0];rfl
  |1,_=>rw[old.c1];rfl
  |2,_=>rw[old.c2];rfl
  |3,_=>rw[old.c3];rfl
  |4,_=>rw[old.c4];rfl)
 refine⟨fun k y hy=>?_,fun j hj=>?_⟩
 ·by_cases e:k=i
  ·subst e;rw[List.getElem?_set_self hi] at hy;cases hy;exact⟨hin 0 (by simp),hin 1 (by simp),hin 2 (by simp),hin 3 (by simp),hin 4 (by simp)⟩
  ·rw[List.getElem?_set_ne (fun h=>e h.symm)] at hy;obtain⟨c0,c1,c2,c3,c4⟩:=h.c k y hy;have far:∀j,j<5->(w.setCells b (i*5) [aa x.nd,.slice x.o x.s.pts.length x.cap,.string x.s.fill,.string x.s.rule,aa x.lv]).cell? (ak b (k*5+j))=w.cell? (ak b (k*5+j)):=fun j hj=>World.cell?_setCells_out b _ _ w ⟨b,k*5+j,none⟩ (fun _ _=>by
    show k*5+j<i*5\/i*5+5<=k*5+j;omega)
   exact⟨(far 0 (by decide)).trans c0,(far 1 (by decide)).trans c1,(far 2 (by decide)).trans c2,(far 3 (by decide)).trans c3,(far 4 (by decide)).trans c4⟩
 ·rw[World.frozen?_setCells];exact h.f j (by rw[List.length_set] at hj;exact hj)
theorem I8.setCells {w:ag}{b:Nat}{l:List P5}(h:I8 w b l)(i:Nat)(vs:List ah):I8 (w.setCells b (i*5) vs) b (l.take i):=⟨fun k y hy=>by
  rw[List.getElem?_take] at hy;split at hy
  ·rename_i hki;obtain⟨c0,c1,c2,c3,c4⟩:=h.c k y hy;have far:∀j,j<5->(w.setCells b (i*5) vs).cell? (ak b (k*5+j))=w.cell? (ak b (k*5+j)):=fun j hj=>World.cell?_setCells_out b _ _ w ⟨b,k*5+j,none⟩ (fun _ _=>.inl (by
    show k*5+j<i*5;omega))
   exact⟨(far 0 (by decide)).trans c0,(far 1 (by decide)).trans c1,(far 2 (by decide)).trans c2,(far 3 (by decide)).trans c3,(far 4 (by decide)).trans c4⟩
  ·exact absurd hy (by simp),fun j hj=>by
  rw[World.frozen?_setCells];exact h.f j (by rw[List.length_take] at hj;omega)⟩
structure CW (q:P5->Bool)(l:List P5)(b base:Nat)(w0:ag)(i j:Nat)(l':List P5)(w:ag):Prop where
 len:l'.length=l.length
 lt:i<j
 le:j<=l.length
 kept:l'.take i=(l.take j).filter fun x=> !q x
 rest:l'.drop j=l.drop j
 row:I8 w b l'
 bel:Below base w0 w
 sz:b<w.heap.size
theorem filter_none {q:P5->Bool}{l:List P5}(h:∀x∈l,q x=false):(l.filter fun x=> !q x)=l:=List.filter_eq_self.2 (fun x hx=>by rw[h x hx];rfl)
theorem CW.skip {q:P5->Bool}{l:List P5}{b base:Nat}{w0:ag}{i j:Nat}{l':List P5}{w w':ag}{x:P5}(h:CW q l b base w0 i j l' w)(hx:l[j]? =some x)(hq:q x=true)(hb:Below w.heap.size w w')(hbase:base<=w.heap.size):CW q l b base w0 i (j+1) l' w':=by
 have hj:j<l.length:=(List.getElem?_eq_some_iff.1 hx).1;refine⟨h.len,by have:=h.lt;omega,hj,?_,?_,h.row.below hb h.sz,h.bel.trans (hb.mono hbase),Nat.lt_of_lt_of_le h.sz hb.size⟩
 ·rw[h.kept,List.take_add_one,hx,List.filter_append];simp[hq]
 ·rw[<- List.drop_drop,h.rest,List.drop_drop]
theorem CW.keep {q:P5->Bool}{l:List P5}{b base:Nat}{w0:ag}{i j:Nat}{l':List P5}{w w':ag}{x:P5}(h:CW q l b base w0 i j l' w)(hx:l[j]? =some x)(hq:q x=false)(hb:Below w.heap.size w w')(hbase:base<=w.heap.size)(hbb:base<=b):CW q l b base w0 (i+1) (j+1) (l'.set i x) (UK w' b (i*5) x):=by
 have hj:j<l.length:=(List.getElem?_eq_some_iff.1 hx).1;have hi:i<l'.length:=by have:=h.lt;have:=h.le;rw[h.len];omega
 have hbl:=h.bel.trans (hb.mono hbase);refine⟨by rw[List.length_set,h.len],by have:=h.lt;omega,hj,?_,?_,(h.row.below hb h.sz).set hi x,?_,?_⟩
 ·rw[List.take_add_one,List.take_set_of_le ai,h.kept,List.getElem?_set_self hi,List.take_add_one,hx,List.filter_append];simp[hq]
 ·rw[List.drop_set_of_lt (by have:=h.lt;omega),<- List.drop_drop,h.rest,List.drop_drop]
 ·rw[Ox];exact fF hbb _ _ _ hbl
 ·have:(UK w' b (i*5) x).heap.size=w'.heap.size:=by simp[UK]
  rw[this];exact Nat.lt_of_lt_of_le h.sz hb.size
theorem CW.start {q:P5->Bool}{l:List P5}{b base:Nat}{w0 w:ag}{k:Nat}{x:P5}(hr:I8 w b l)(hb:Below base w0 w)(hs:b<w.heap.size)(hx:l[k]? =some x)(hall:∀y∈l.take k,q y=false)(hq:q x=true):CW q l b base w0 k (k+1) l w:=by
 have hk:k<l.length:=(List.getElem?_eq_some_iff.1 hx).1;refine⟨rfl,by omega,hk,?_,rfl,hr,hb,hs⟩;rw[List.take_add_one,hx,List.filter_append,filter_none hall];simp[hq]
theorem Ea (base fn By:Nat)(hcf:∀(av:Array ah) (w:ag),Sem.run prog (callFunc fn av) w=.ok (.enter fn av) w)(q:P5->Bool)(l:List P5)(b cap:Nat)(w0 w:ag)(hl:l.length<=1000)(hr:I8 w b l)(hbb:base<=b)(hbw:b<w.heap.size)(hcap:l.length<=cap)(hb0:Below base w0 w)(hq:Z8 base fn By w0 l q):
  ax 84 #[.slice (some ⟨b,0,none⟩) l.length cap,rfV fn By] w fun e W=>e=.returned (.slice (some ⟨b,0,none⟩) (l.filter fun x=> !q x).length cap)/\I8 W b (l.filter fun x=> !q x)/\Below base w0 W/\b<W.heap.size:=by
 have hbase:base<=w.heap.size:=by omega
 have IX:=Ia base fn By hcf q l (some ⟨b,0,none⟩) cap w0 w hl hr.at_ hb0 hbase hq;go_enter func84,ntmps84;go_upto_region 2 with(go_at_call 131;refine IX.mono ?_;rintro e w1 ⟨hix,b1⟩;obtain⟨n,rfl,hn⟩:∃n:Int,e=.returned (aa n)/\((∀x∈l,q x=false)/\n= -1\/∃(k:Nat) (x:P5),l[k]? =some x/\(∀y∈l.take k,q y=false)/\q x=true/\n=k):=(by rcases hix with⟨k1,k2⟩|⟨k,x,k1,k2,k3,k4⟩;exact⟨_,k2,.inl ⟨k1,rfl⟩⟩;exact⟨_,k4,.inr ⟨k,x,k1,k2,k3,rfl⟩⟩));clear hix IX;have hr1:=hr.below b1 hbw;have hb1:=hb0.trans (b1.mono hbase);have a2H:=Nat.lt_of_lt_of_le hbw b1.size;rcases hn with⟨hall,rfl⟩|⟨k,x,hx,hall,Ug,rfl⟩
 ·go_wp2_with fail;go_ret;rw[filter_none hall];exact⟨rfl,hr1,hb1,a2H⟩
 ·have D0:=CW.start hr1 hb1 a2H hx hall Ug;have hk:k<l.length:=(List.getElem?_eq_some_iff.1 hx).1;have hne:((k:Int)== -1)=false:=beq_eq_false_iff_ne.2 (by omega);clear hx hall Ug hr1 hb1 a2H hr;go_wp2_with fail
  go_loopw [5,6] (fun u v wr=>∃(i j:Nat) (l':List P5),u=aa i/\v=aa j/\CW q l b base w0 i j l' wr) (fun _ v _=>l.length-(intOf v).toNat)
  case atStart=>exact⟨k,k+1,l,rfl,by go_num,D0⟩
  case round=>
   obtain⟨i,j,l',rfl,rfl,hD⟩:=hrel;have hij:=hD.lt;have hjl:=hD.le;have hwb:base<=wr.heap.size:=by have:=hD.sz;omega
   by_cases hlt:j<l.length
   ·have hlt':(j:Int)<(l.length:Int):=by omega
    have a2I:(i:Int)<(l.length:Int):=by omega
    obtain⟨x,hx⟩:∃x,l[j]? =some x:=⟨_,List.getElem?_eq_getElem hlt⟩;have hmem:x∈l:=List.mem_of_getElem? hx;have hx':l'[j]? =some x:=by
     have h1:(l'.drop j)[0]? =some x:=by rw[hD.rest,List.getElem?_drop];exact hx
     rw[List.getElem?_drop] at h1;exact h1
    have hC:=hD.row.c j x hx';have b2:=aU wr (.cells (wH x) 138);have AQ:=hq x hmem (wr.alloc (.cells (wH x) 138)) (hD.bel.trans (b2.mono hwb));have C0:=Ot.new wr x 138;obtain⟨c0,c1,c2,c3,c4⟩:=hC;have HX:=aj hx;clear hx hx';cases Ug:q x with
    |true=>
     rw[Ug] at AQ;go_wp2_with(refine AQ.mono ?_;rintro e w2 ⟨rfl,b3⟩)
     go_roundw
     case rel=>exact⟨i,j+1,l',rfl,by go_num,hD.skip HX.out Ug (aA b2 b3) hwb⟩
     case measure=>simp[intOf];omega
    |false=>
     rw[Ug] at AQ;have hil:i<l'.length:=by rw[hD.len];omega
     have oi:=hD.row.c i l'[i] (List.getElem?_eq_getElem hil);generalize l'[i]=old at oi;have fi:∀m,m<5->wr.frozen? ⟨b,i*5+m,none⟩=false:=fun m hm=>hD.row.f _ (by rw[hD.len];omega);go_upto_region 9 with(refine AQ.mono ?_;rintro e w2 ⟨rfl,b3⟩);have rJ:=aA b2 b3;obtain⟨d0,d1,d2,d3,d4⟩:=C0.below b3 ai;obtain⟨o0,o1,o2,o3,o4⟩:=oi.below rJ ai;have f0:=(rJ.frozen (p:=⟨b,i*5,none⟩) hD.sz).trans (fi 0 (by decide));have f1:=(rJ.frozen (p:=⟨b,i*5+1,none⟩) hD.sz).trans (fi 1 (by decide));have f2:=(rJ.frozen (p:=⟨b,i*5+2,none⟩) hD.sz).trans (fi 2 (by decide));have f3:=(rJ.frozen (p:=⟨b,i*5+3,none⟩) hD.sz).trans (fi 3 (by decide));have f4:=(rJ.frozen (p:=⟨b,i*5+4,none⟩) hD.sz).trans (fi 4 (by decide));have K:=hD.keep HX.out Ug rJ hwb hbb;clear hil c0 c1 c2 c3 c4 fi;go_wp2_with fail
     go_roundw
     case rel=>exact⟨i+1,j+1,_,by go_num,by go_num,K⟩
     case measure=>simp[intOf];omega
   ·obtain rfl:j=l.length:=by omega
    have hni:0<l.length-i:=by omega
    have hlen:=hD.len;obtain⟨vs,hvl,hcl⟩:∃vs:List ah,vs.length=(l.length-i)*5/\∀ty,(Builtin.clear_ #[73] ty #[.slice (some ⟨b,i*5,none⟩) (l.length-i) (cap-i)]).run prog wr=.ok (.tuple #[]) (wr.setCells b (i*5) vs):=by
     have hex:∀ty,∃vs:List ah,vs.length=(l.length-i)*5/\(Builtin.clear_ #[73] ty #[.slice (some ⟨b,i*5,none⟩) (l.length-i) (cap-i)]).run prog wr=.ok (.tuple #[]) (wr.setCells b (i*5) vs):=fun ty=>CV wr ty b (i*5) (l.length-i) (cap-i) hni (fun m hm=>by
      obtain⟨r,hr⟩:∃r,i*5+m=r:=⟨_,rfl⟩;rw[hr];have hrl:r/5<l'.length:=by omega
      obtain⟨c0,c1,c2,c3,c4⟩:=hD.row.c (r/5) l'[r/5] (List.getElem?_eq_getElem hrl);have hm5:r % 5<5:=Nat.mod_lt _ (by decide);have er:r=r/5*5+r % 5:=by omega
      rw[er];generalize r % 5=z at hm5
      match z,hm5 with
      |0,_=>rw[Nat.add_zero,c0];rfl
      |1,_=>rw[c1];rfl
      |2,_=>rw[c2];rfl
      |3,_=>rw[c3];rfl
      |4,_=>rw[c4];rfl) (fun m hm=>hD.row.f _ (by omega))
     obtain⟨vs,h1,h2⟩:=hex 0;exact⟨vs,h1,fun ty=>h2⟩
    have hic:(i:Int)<(cap:Int):=by omega
    have hil:(i:Int)<(l.length:Int):=by omega
    have K:I8 (wr.setCells b (i*5) vs) b (l.filter fun x=> !q x):=by
     have h1:=hD.row.setCells i vs;rw[hD.kept,List.take_length] at h1;exact h1
    have hfl:(l.filter fun x=> !q x).length=i:=by
     have h1:=hD.kept;rw[List.take_length] at h1;rw[<- h1,List.length_take];omega
    have HF:=aj hfl;have hB2:=fF hbb vs (i*5) wr hD.bel;have hS2:b<(wr.setCells b (i*5) vs).heap.size:=by
     have:=(fF ai vs (i*5) wr (Below.refl b wr)).size;have:=hD.sz;omega
    clear hfl hvl hlen;go_wp2_with fail;go_ret;exact⟨by rw[HF.out];rfl,K,hB2,hS2⟩
theorem Z9 (aB aS aZ:Addr)(y:Int)(l:List P5)(w:ag)(By:Nat)(hl:∀x∈l,x.s.pts.length<=1000)(hP:iK w l)(hE:E3 aB aS aZ w)(hy:w.cell? (ak By 0)=some (aa y)):Z8 w.heap.size 86 By w l (fun x=> !aI x.s.pts y):=fun x hx V hV=>
 M7 aB aS aZ x y By V (hl x hx) ((hP x hx).below hV ai) (hE.below hV ai) ((hV.cell (aC hy)).trans hy)
theorem QK (l:List P5)(y:Int):sP (l.filter fun x=> !!aI x.s.pts y)=(sP l).filter fun s=>aI s.pts y:=by
 induction l with
 |nil=>rfl
 |cons a l ih=>
  simp only[sP,List.filter_cons,List.map_cons,Bool.not_not] at ih⊢;cases h:aI a.s.pts y with
  |true=>simp[ih]
  |false=>simp[ih]
theorem Eb (fn By:Nat)(hcf:∀(av:Array ah) (w:ag),Sem.run prog (callFunc fn av) w=.ok (.enter fn av) w)(w:ag):ax 84 #[.slice none 0 0,rfV fn By] w fun e W=>e=.returned (.slice none 0 0)/\Below w.heap.size w W:=by
 have IX:=Ia w.heap.size fn By hcf (fun _=>false) [] none 0 w w (by simp) (fun i x hx=>by simp at hx) (Below.refl _ _) ai (fun x hx=>by cases hx);go_enter func84,ntmps84;go_upto_region 2 with(go_at_call 131;refine IX.mono ?_;rintro e w1 ⟨hix,b1⟩;obtain rfl:e=.returned (aa (-1)):=(by rcases hix with⟨-,k2⟩|⟨k,x,k1, -⟩;exact k2;simp at k1));go_wp2_with fail;go_ret;exact⟨rfl,b1⟩
def rO (f:Nat->aD)(n k:Nat):Array ah:=((List.range n).map fun x=>if x<k then Value.string (f x) else .string ⟨#[]⟩).toArray
theorem uR (f:Nat->aD)(n k i:Nat)(h:i<n):(rO f n k)[i]? =some (if i<k then Value.string (f i) else .string ⟨#[]⟩):=by
 unfold rO;rw[List.getElem?_toArray,List.getElem?_map,List.getElem?_range h];rfl
theorem kG (f:Nat->aD)(n k:Nat):(rO f n k).size=n:=by simp[rO]
theorem UL (f:Nat->aD)(n k:Nat)(h:k<n):(rO f n k).setIfInBounds k (.string (f k))=rO f n (k+1):=by
 apply Array.ext_getElem?;intro i;by_cases hi:i<n
 ·rw[uR f n (k+1) i hi];by_cases e:k=i
  ·subst e;rw[Array.getElem?_setIfInBounds_self_of_lt (by rw[kG];exact h),if_pos (by omega)]
  ·rw[Array.getElem?_setIfInBounds_ne e,uR f n k i hi];by_cases h1:i<k
   ·rw[if_pos h1,if_pos (by omega)]
   ·rw[if_neg h1,if_neg (by omega)]
 ·rw[Array.getElem?_eq_none (by rw[Array.size_setIfInBounds,kG];omega),Array.getElem?_eq_none (by rw[kG];omega)]
theorem a6v (f:Nat->aD)(n:Nat):madeCells (Value.string ⟨#[]⟩).cells n=rO f n 0:=by
 apply Array.ext_getElem?;intro i;by_cases hi:i<n
 ·rw[uR f n 0 i hi,if_neg (by omega)];simp[madeCells,Value.cells,hi,Nat.mod_one]
 ·rw[Array.getElem?_eq_none (by simp[madeCells];omega),Array.getElem?_eq_none (by rw[kG];omega)]
theorem Fs:(prog.info? 9).map (fun i=>(i.zero,i.size,i.bytes))=some (some (.string ⟨#[]⟩),1,16):=by kernel_rfl
theorem QL (f:Nat->aD)(n:Nat)(w:ag)(hn:n<=100):(Instr.makeSlice 38 (aa (n:Int)) (aa (n:Int))).run prog w=.ok (.slice (some ⟨w.heap.size,0,none⟩) n n) (w.alloc (.cells (rO f n 0) 9)):=by
 obtain⟨i0,hi,hz0,hz1,hz2⟩:=info_parts Fs;have:=run_makeSlice (P:=prog) (w:=w) 38 9 i0 (.string ⟨#[]⟩) underlying38 hi hz0 .i64 .i64 n n (by omega) (Int.le_refl _) (by rw[hz1];omega) (by rw[hz2];omega) (by omega);rw[this,hz1,Int.toNat_natCast,Nat.mul_one,a6v f n]
theorem QM (f:Nat->aD)(n:Nat):(rO f n n).toList=((List.range n).map f).map .string:=by
 unfold rO;rw[List.map_map];apply List.map_congr_left;intro x hx;rw[if_pos (List.mem_range.1 hx)];rfl
theorem Ec (aB aS aZ aV:Addr)(l:List P5)(o:Option Addr)(cap n:Nat)(y:Int)(w:ag)(hn:n<=100)(hy1:0<=y)(hy2:y<=100)(hl:l.length<=1000)(h:yN w o cap l)(hP:iK w l)(hk:∀x∈l,ji x.s)(hE:EP aB aS aZ aV w):
  ax 48 #[.slice o l.length cap,aa n,aa y] w fun e W=>∃v,e=.returned v/\W.ownsRow w.heap.size 9 1 v n ((mO aI (sP l) n y).map .string)/\Below w.heap.size w W:=by
 have hrow:mO aI (sP l) n y=(List.range n).map fun(x:Nat)=>gI (sP (l.filter fun x=> !!aI x.s.pts y)) (jC (x:Int) y):=by
  rw[QK];rfl
 rw[hrow];clear hrow;obtain⟨lr,hlr⟩:∃lr,(l.filter fun x=> !!aI x.s.pts y)=lr:=⟨_,rfl⟩;rw[hlr];have Ib:=aj hlr;clear hlr;have b0:=aU w (.cells #[aa y] 3);have hcy:=(iy w (aa y) 3).1;go_enter func48,ntmps48;go_upto_region 1 with fail;obtain⟨U,hU⟩:∃U,w.alloc (.cells #[aa y] 3)=U:=⟨_,rfl⟩;rw[hU] at b0 hcy⊢;clear hU;have Z7:=hP.below b0 ai;have Lp:=hE.below b0 ai;have CL:=I9 U o cap l (h.below b0) hl
 go_cut [7] from 10 to 14 (fun v wx=>∃oo cc,v=.slice oo lr.length cc/\gV wx oo lr/\Below U.heap.size U wx)
 case first=>
  go_wp2_with(go_at_call 85;refine CL.mono ?_;rintro e w1 ⟨v1,rfl,Aa,b1⟩);have hP1:=Z7.below b1 ai;have hpl:∀x∈l,x.s.pts.length<=1000:=fun x hx=>by have:=(hk x hx).1.1;omega
  have AR:=Z9 aB aS aZ y l U w.heap.size hpl Z7 Lp.e3 hcy;rcases Aa.rw with⟨rfl,rfl⟩|⟨b,cc,rfl,hb1,hb2,hb3,hrw⟩
  ·have DN:=Eb 86 w.heap.size (oJ _ _ func86 (by kernel_rfl) (by kernel_rfl)) w1;go_wp2_with(go_at_call 84;refine DN.mono ?_;rintro e w2 ⟨rfl,b2⟩)
   go_meet
   exact⟨none,0,by rw[<- Ib.out];rfl,fun i x hx=>by rw[<- Ib.out] at hx;simp at hx,aA b1 b2⟩
  ·have DF:=Ea U.heap.size 86 w.heap.size (oJ _ _ func86 (by kernel_rfl) (by kernel_rfl)) (fun x=> !aI x.s.pts y) l b cc U w1 hl hrw hb1 hb2 hb3 b1 AR;go_wp2_with(go_at_call 84;refine DF.mono ?_;rintro e w2 ⟨rfl,hrw2,b2, -⟩)
   go_meet
   exact⟨some ⟨b,0,none⟩,cc,by rw[<- Ib.out];simp,by rw[<- Ib.out];exact hrw2.at_,b2⟩
 case rest=>
  obtain⟨oo,cc,rfl,hAt,bX⟩:=hcut;have hPX:iK wc lr:=fun x hx=>(Z7.below bX ai) x (by rw[<- Ib.out] at hx;exact(List.mem_filter.1 hx).1);have hkX:∀x∈lr,ji x.s:=fun x hx=>hk x (by rw[<- Ib.out] at hx;exact(List.mem_filter.1 hx).1);have hlX:lr.length<=1000:=by rw[<- Ib.out];exact Nat.le_trans (List.length_filter_le _ _) hl
  have hEX:=Lp.below bX ai;have Za:=(bX.cell (aC hcy)).trans hcy;clear Ib CL;have UM:=aA b0 bX;have MK:=QL (fun x=>gI (sP lr) (jC (x:Int) y)) n wc hn;go_upto_region 3 with fail;have bM:=aU wc (.cells (rO (fun x=>gI (sP lr) (jC (x:Int) y)) n 0) 9);have rM:=World.alloc_heap_new wc (.cells (rO (fun x=>gI (sP lr) (jC (x:Int) y)) n 0) 9);obtain⟨V,hV⟩:∃V,wc.alloc (.cells (rO (fun x=>gI (sP lr) (jC (x:Int) y)) n 0) 9)=V:=⟨_,rfl⟩;obtain⟨R,hR⟩:∃R,wc.heap.size=R:=⟨_,rfl⟩;have hRw:w.heap.size<=R:=by rw[<- hR];exact UM.size
  have aaz:=(bM.cell (aC Za)).trans Za;rw[hV] at bM rM aaz⊢;rw[hR] at rM⊢;have HR:=aj hR;clear hV MK hR;go_wp2_with fail
  go_loopw [18] (fun i wr=>∃k:Nat,k<=n/\i=aa k/\wr.heap[R]? =some (.cells (rO (fun x=>gI (sP lr) (jC (x:Int) y)) n k) 9)/\Below R wc wr) (fun i _=>n-(intOf i).toNat)
  case atStart=>exact⟨0,Nat.zero_le _,rfl,rM,by rw[<- HR.out];exact bM⟩
  case round=>
   obtain⟨k,hk',rfl,hrow,hb⟩:=hrel;by_cases hlt:k<n
   ·have hlt':(k:Int)<(n:Int):=by omega
    have hbW:Below wc.heap.size wc wr:=by rw[HR.out];exact hb
    have hRs:R<wr.heap.size:=(Array.getElem?_eq_some_iff.1 hrow).1;obtain⟨ec,ip⟩:=UH (x:=(k:Int)) (y:=y) (by omega) (by omega) hy1 hy2;have CE:=zU (k:Int) y wr (by omega) (by omega) (by omega) (by omega);have bC:=E5 (k:Int) y wr;have ai2:=(hbW.cell (aC Za)).trans Za;obtain⟨Z,hZ⟩:∃Z,((wr.alloc (a2z (k:Int) y)).alloc (zT (k:Int))).alloc (zT y)=Z:=⟨_,rfl⟩;rw[hZ] at CE bC;have YU:=aA hbW bC;have SA:=I5 aB aS aZ aV lr oo cc (jC (k:Int) y) Z hlX (hAt.below YU ai) (hPX.below YU ai) hkX ip ec (hEX.below YU ai);clear hZ;have HC:Hid (rO (fun x=>gI (sP lr) (jC (x:Int) y)) n (k+1)=(rO (fun x=>gI (sP lr) (jC (x:Int) y)) n k).setIfInBounds k (.string (gI (sP lr) (jC (k:Int) y)))):=(UL (fun x=>gI (sP lr) (jC (x:Int) y)) n k hlt).symm;have c0:wr.cell? (ak R k)=some (.string ⟨#[]⟩):=by
     simp only[World.cell?,hrow];rw[uR _ n k k hlt,if_neg (Nat.lt_irrefl k)];rfl
    have f0:wr.frozen? ⟨R,k,none⟩=false:=by
     unfold World.frozen?;rw[hrow];simp
    generalize gI (sP lr) (jC (k:Int) y)=sh at SA HC;go_wp2_with(first|(go_at_call 88;refine SA.mono ?_;rintro e w2 ⟨rfl,b2⟩;have bz:=aA bC b2;have c2:=(bz.cell (aC c0)).trans c0;have f2:=(bz.frozen (aC c0)).trans f0)|(go_at_call 89;refine CE.mono ?_;rintro e w1 ⟨rfl,rfl⟩))
    go_roundw
    case rel=>
     refine⟨k+1,by omega,by go_num,?_,?_⟩
     ·rw[HC.out];have:=heap_setCell_same w2 R k _ _ (.string sh) (((bz.block R hRs)).trans hrow);exact this
     ·exact(hb.trans (bz.mono (by omega))).setCell ai _
    case measure=>simp[intOf];omega
   ·obtain rfl:k=n:=by omega
    go_wp2_with fail;go_ret;refine⟨_,rfl,⟨by simp,.inr ⟨R,_,_,rfl,hRw,hrow,Nat.le_refl _,by simp only[maxLen];omega,by rw[kG,Nat.mul_one],?_⟩⟩,UM.trans (hb.mono hRw)⟩;rw[Nat.mul_one,List.take_of_length_le (by rw[Array.length_toList,kG];exact Nat.le_refl _)];exact QM _ _
def jy (l:List P5):Prop:=∀x∈l,ji x.s
theorem wL {l:List P5}(h:∃x∈l,¬ji x.s):¬jy l:=fun hk=>by
 obtain⟨x,hx,hn⟩:=h;exact hn (hk x hx)
theorem a2J (aB aS aZ aV:Addr)(l:List P5)(o:Option Addr)(cap n:Nat)(y:Int)(w:ag)(hn1:1<=n)(hn:n<=40)(hy1:0<=y)(hy2:y<40)(hl:l.length<=1000)(h:yN w o cap l)(hP:iK w l)(hE:EP aB aS aZ aV w):
  ax 65 #[.slice o l.length cap,aa n,aa y] w fun e W=>((jy l/\∃v,e=.returned (.tuple #[v,.nilIface])/\W.ownsRow w.heap.size 9 1 v n ((mO aI (sP l) n y).map .string))\/(¬jy l/\∃a,e=.returned (.tuple #[.slice none 0 0,.iface 113 (.pointer (some a))])))/\Below w.heap.size w W:=by
 have IS:=tu (n:Int) w;rw[show decide (1<=(n:Int)/\(n:Int)<=40)=true from by simp;omega] at IS;have CK:=wK aB aS aZ aV l o cap w hl h.at_ hP hE;have RO:=fun V (hv:Below w.heap.size w V) (hk:jy l)=>Ec aB aS aZ aV l o cap n y V (by omega) hy1 (by omega) hl (h.below hv) (hP.below hv ai) hk (hE.below hv ai);go_enter func65,ntmps65;go_upto_region 4 with(first|(go_at_call 46;refine IS.mono ?_;rintro e w1 ⟨rfl,rfl⟩)|(go_at_call 47;refine CK.mono ?_;rintro e w1 ⟨hc,b1⟩;obtain⟨v,rfl,hv⟩:∃v,e=.returned v/\((jy l/\v=.nilIface)\/(¬jy l/\∃a,v=.iface 113 (.pointer (some a)))):=(by rcases hc with⟨k1,k2⟩|⟨k1,a,k2⟩;exact⟨_,k2,.inl ⟨k1,rfl⟩⟩;exact⟨_,k2,.inr ⟨wL k1,a,rfl⟩⟩)));rcases hv with⟨hok,rfl⟩|⟨hno,a,rfl⟩
 ·have RO:=RO w1 b1 hok;go_wp2_with(go_at_call 48;refine RO.mono ?_;rintro e w2 ⟨v,rfl,ow,b2⟩);refine bodyPost_ret (results_tmp2 rfl _ _ _) rfl ?_;exact⟨.inl ⟨hok,v,rfl,by
   refine⟨ow.1,?_⟩;rcases ow.2 with h0|⟨g,c,cur,h1,h2,h3⟩
   ·exact .inl h0
   ·exact .inr ⟨g,c,cur,h1,Nat.le_trans b1.size h2,h3⟩⟩,aA b1 b2⟩
 ·go_wp2_with fail;refine bodyPost_ret (results_tmp2 rfl _ _ _) rfl ?_;exact⟨.inr ⟨hno,a,rfl⟩,b1⟩
theorem UN {w:ag}{b:Nat}{x y z:ah}{t:TypeId}(h:w.heap[b]? =some (.cells #[x,y,z] t))(u0 u1 u2:ah):(((w.setCell ⟨b,0,none⟩ u0).setCell ⟨b,1,none⟩ u1).setCell ⟨b,2,none⟩ u2).heap[b]? =some (.cells #[u0,u1,u2] t):=by
 have h1:=heap_setCell_same w b 0 _ _ u0 h;have h2:=heap_setCell_same _ b 1 _ _ u1 h1;have h3:=heap_setCell_same _ b 2 _ _ u2 h2;rw[h3];rfl
structure lY (w:ag)(b:Nat)(x y z:ah):Prop where
 c0:w.cell? (ak b 0)=some x
 c1:w.cell? (ak b 1)=some y
 c2:w.cell? (ak b 2)=some z
 f0:w.frozen? ⟨b,0,none⟩=false
 f1:w.frozen? ⟨b,1,none⟩=false
 f2:w.frozen? ⟨b,2,none⟩=false
theorem lY.of {w:ag}{b:Nat}{x y z:ah}{t:TypeId}(h:w.heap[b]? =some (.cells #[x,y,z] t)):lY w b x y z:=by
 have fz:∀j,w.frozen? ⟨b,j,none⟩=false:=fun j=>by unfold World.frozen?;rw[h];simp
 exact⟨by simp[World.cell?,h],by simp[World.cell?,h],by simp[World.cell?,h],fz 0,fz 1,fz 2⟩
theorem fH {w:ag}{base base':Nat}{e:TypeId}{size:Nat}{v:ah}{n:Nat}{xs:List ah}(h:w.ownsRow base e size v n xs)(hb:base'<=base):w.ownsRow base' e size v n xs:=by
 refine⟨h.1,?_⟩;rcases h.2 with h0|⟨g,cap,cur,h1,h2,h3⟩
 ·exact .inl h0
 ·exact .inr ⟨g,cap,cur,h1,Nat.le_trans hb h2,h3⟩
theorem own_below {w w':ag}{base:Nat}{e:TypeId}{size:Nat}{v:ah}{n:Nat}{xs:List ah}(h:w.ownsRow base e size v n xs)(hb:Below w.heap.size w w'):w'.ownsRow base e size v n xs:=by
 refine⟨h.1,?_⟩;rcases h.2 with h0|⟨g,cap,cur,h1,h2,h3,h4⟩
 ·exact .inl h0
 ·exact .inr ⟨g,cap,cur,h1,h2,(hb.block g (Array.getElem?_eq_some_iff.1 h3).1).trans h3,h4⟩
theorem iR {w:ag}{base:Nat}{e:TypeId}{size:Nat}{v:ah}{n:Nat}{xs:List ah}(h:w.ownsRow base e size v n xs){p:Addr}(hp:p.block<base)(u:ah):(w.setCell p u).ownsRow base e size v n xs:=by
 refine⟨h.1,?_⟩;rcases h.2 with h0|⟨g,cap,cur,h1,h2,h3,h4⟩
 ·exact .inl h0
 ·exact .inr ⟨g,cap,cur,h1,h2,(Below.heap_setCell w p u g (by omega)).trans h3,h4⟩
theorem Ab {w:ag}{base g:Nat}{e:TypeId}{n n' cap:Nat}{xs:List ah}(h:w.ownsRow base e 1 (.slice (some ⟨g,0,none⟩) n' cap) n xs):∀j u,xs[j]? =some u->w.cell? ((⟨g,0,none⟩:Addr).add j)=some u:=fun j u hj=>World.ownsRow.cells h (g:=g) rfl j u hj
theorem Fu (l:List aD):∀u∈l.map Value.string,u.oneCell'=true:=fun u hu=>by
 obtain⟨s, -,rfl⟩:=List.mem_map.1 hu;rfl
theorem UO (aB aS aZ aV:Addr)(l:List P5)(o:Option Addr)(cap n h:Nat)(w:ag)(hn1:1<=n)(hn:n<=40)(Ac:1<=h)(hh:h<=40)(hl:l.length<=1000)(hR:yN w o cap l)(hP:iK w l)(hE:EP aB aS aZ aV w):
  ax 25 #[.slice o l.length cap,aa n,aa h] w fun e W=>((jy l/\∃v,e=.returned (.tuple #[.agg #[aa n,aa h,v],.nilIface])/\W.ownsRow w.heap.size 9 1 v (n*h) ((jD aI (sP l) n h).map .string))\/(¬jy l/\∃a,e=.returned (.tuple #[.agg #[aa 0,aa 0,.slice none 0 0],.iface 113 (.pointer (some a))])))/\Below w.heap.size w W:=by
 have b0:=aU w (.cells #[aa 0,aa 0,.slice none 0 0] 40);have r0:=World.alloc_heap_new w (.cells #[aa 0,aa 0,.slice none 0 0] 40);have IS:=fun V=>tu (n:Int) V;rw[show decide (1<=(n:Int)/\(n:Int)<=40)=true from by simp;omega] at IS;have IH:=fun V=>tu (h:Int) V;rw[show decide (1<=(h:Int)/\(h:Int)<=40)=true from by simp;omega] at IH;go_enter func25,ntmps25;go_upto_region 1 with fail;obtain⟨U,hU⟩:∃U,w.alloc (.cells #[aa 0,aa 0,.slice none 0 0] 40)=U:=⟨_,rfl⟩;rw[hU] at b0 r0⊢;clear hU;have CK:=wK aB aS aZ aV l o cap U hl (hR.below b0).at_ (hP.below b0 ai) (hE.below b0 ai);go_upto_region 4 with(first|(go_at_call 47;refine CK.mono ?_;rintro e w1 ⟨hc,b1⟩;obtain⟨v,rfl,hv⟩:∃v,e=.returned v/\((jy l/\v=.nilIface)\/(¬jy l/\∃a,v=.iface 113 (.pointer (some a)))):=(by rcases hc with⟨k1,k2⟩|⟨k1,a,k2⟩;exact⟨_,k2,.inl ⟨k1,rfl⟩⟩;exact⟨_,k2,.inr ⟨wL k1,a,rfl⟩⟩))|(go_at_call_of 46 (h:Int);refine(IH _).mono ?_;rintro e w1 ⟨rfl,hw⟩;rw[hw];clear hw)|(go_at_call_of 46 (n:Int);refine(IS _).mono ?_;rintro e w1 ⟨rfl,hw⟩;rw[hw];clear hw));clear CK IS IH;have sS:=aA b0 b1;have r1:=(b1.block _ (Array.getElem?_eq_some_iff.1 r0).1).trans r0;have q0:w1.cell? ⟨w.heap.size,0,none⟩=some (aa 0):=by simp[World.cell?,r1]
 have q1:w1.cell? ⟨w.heap.size,1,none⟩=some (aa 0):=by simp[World.cell?,r1]
 have q2:w1.cell? ⟨w.heap.size,2,none⟩=some (.slice none 0 0):=by simp[World.cell?,r1]
 have z:∀j,w1.frozen? ⟨w.heap.size,j,none⟩=false:=fun j=>by unfold World.frozen?;rw[r1];simp
 have z0:=z 0;have z1:=z 1;have z2:=z 2;rcases hv with⟨hok,rfl⟩|⟨hno,a,rfl⟩
 ·go_upto_region 7 with fail;have b2:=aU w1 (.cells #[aa n,aa h,.slice none 0 0] 40);have r2:=World.alloc_heap_new w1 (.cells #[aa n,aa h,.slice none 0 0] 40);have sz2:(w1.alloc (.cells #[aa n,aa h,.slice none 0 0] 40)).heap.size=w1.heap.size+1:=by simp
  obtain⟨V,hV⟩:∃V,w1.alloc (.cells #[aa n,aa h,.slice none 0 0] 40)=V:=⟨_,rfl⟩;obtain⟨B,hB⟩:∃B,w1.heap.size=B:=⟨_,rfl⟩;have hwB:w.heap.size<B:=by rw[<- hB];exact(Array.getElem?_eq_some_iff.1 r1).1
  have bwV:=aA sS b2;rw[hV] at r2 sz2 bwV⊢;have bB:Below B w1 V:=by rw[<- hB,<- hV];exact b2
  rw[hB] at r2 sz2⊢;have HB:=aj hB;clear hV hB b2 q0 q1 q2 z z0 z1 z2;obtain⟨i0,hi,hz0,hz1,hz2⟩:=info_parts Fs;go_wp2_with fail
  go_loopw [31] (fun i wr=>∃(k:Nat) (v:ah),k<=h/\i=aa k/\wr.heap[B]? =some (.cells #[aa n,aa h,v] 40)/\wr.ownsRow (B+1) 9 1 v (n*k) ((jD aI (sP l) n k).map .string)/\Below B w1 wr) (fun i _=>h-(intOf i).toNat)
  case atStart=>exact⟨0,_,Nat.zero_le _,rfl,r2,World.ownsRow_nil _ _ _ _,bB⟩
  case round=>
   obtain⟨k,v,hk,rfl,hblk,hown,hb⟩:=hrel;have hb1:Below w1.heap.size w1 wr:=by rw[HB.out];exact hb
   have bwr:=aA sS hb1;have hBs:B<wr.heap.size:=(Array.getElem?_eq_some_iff.1 hblk).1;obtain⟨c0,c1,c2,f0,f1,f2⟩:=lY.of hblk;by_cases hlt:k<h
   ·have hlt':(k:Int)<(h:Int):=by omega
    have RO:=fun V (hv:Below w.heap.size w V)=>Ec aB aS aZ aV l o cap n (k:Int) V (by omega) (by omega) (by omega) hl (hR.below hv) (hP.below hv ai) hok (hE.below hv ai);have hnk:n*k<=40*40:=Nat.mul_le_mul hn (by omega);go_upto_region 10 with fail;have c2d:wr.drew.cell? (ak B 2)=some v:=c2;have hBv:∀r,v.ownBlock=some r->B<r:=fun r e=>by have:=(hown.lt r e).1;omega
    have RO2:∀V,Below wr.heap.size wr V->ax 48 #[.slice o l.length cap,aa n,aa (k:Int)] V fun e w4=>∃g1 dR,e=.returned (.slice (some ⟨g1,0,none⟩) n dR)/\w4.ownsRow (B+1) 9 1 v (n*k) ((jD aI (sP l) n k).map .string)/\w4.ownsRow wr.heap.size 9 1 (.slice (some ⟨g1,0,none⟩) n dR) n ((mO aI (sP l) n (k:Int)).map .string)/\Below wr.heap.size wr w4/\w4.cell? (ak B 2)=some v/\B+1<=w4.heap.size:=fun V hV=>(RO V (aA bwr hV)).mono (by
     rintro e w4 ⟨vr,rfl,owR,b4⟩;obtain⟨g1,dR,rfl, -, -⟩:=owR.form (by omega);have b5:=aA hV b4;exact⟨g1,dR,rfl,own_below hown b5,fH owR hV.size,b5,(b5.cell (aC c2)).trans c2,by have:=b5.size;omega⟩)
    have KEEP:∀w4 w7,Below wr.heap.size wr w4->w4.grownBy w7 v.ownBlock->w7.heap[B]? =some (.cells #[aa n,aa h,v] 40)/\Below B w1 w7:=fun w4 w7 b4 gr=>by
     have h4:=(b4.block B hBs).trans hblk;refine⟨(gr.block B (Array.getElem?_eq_some_iff.1 h4).1 (fun e=>by have:=hBv B e.symm;omega)).trans h4,?_⟩;exact(hb.trans (b4.mono (by omega))).grown gr (by have:=b4.size;omega) (fun r e=>by have:=hBv r e;omega)
    clear RO
    go_region_law (first|(refine step_append_lies _ rfl (.tmp 35) (.tmp 39) 38 rfl (B+1) 9 i0 (.string ⟨#[]⟩) 1 16 underlying38 hi hz0 hz1 hz2 rfl (by decide) v (n*k) ((jD aI (sP l) n k).map .string) rfl Yy ⟨g1,0,none⟩ n dR ((mO aI (sP l) n (k:Int)).map .string) rfl (by rw[List.length_map,mP,Nat.mul_one]) (Ab owR) (Fu _) (by omega) (by simp only[maxLen];omega) (by omega) (by omega) _ rfl ?_;intro g7 tK w7 kF lH Zb a6y;obtain⟨hK7,bK7⟩:=KEEP _ _ b4 lH;obtain⟨-, -,cc7, -, -,ff7⟩:=lY.of hK7)|(go_simp;go_wp2_with(go_at_call 48;refine(RO2 _ (by exact(Below.refl _ _).drew)).mono ?_;rintro e w4 ⟨g1,dR,rfl,Yy,owR,b4,cc4,hs4⟩)))
    all_goals
     have hfin:(w7.setCell ⟨B,2,none⟩ (.slice (some ⟨g7,0,none⟩) (n*k+n) tK)).heap[B]? =some (.cells #[aa n,aa h,.slice (some ⟨g7,0,none⟩) (n*k+n) tK] 40):=by
      rw[heap_setCell_same w7 B 2 _ _ _ hK7];rfl
     have a6z:(jD aI (sP l) n (k+1)).map Value.string=(jD aI (sP l) n k).map Value.string++(mO aI (sP l) n (k:Int)).map Value.string:=by rw[wG,List.map_append]
     have Zc:Hid (_/\_):=And.intro hfin a6z;have HOW:=aj kF;clear hfin a6z kF lH hK7 KEEP RO2 Yy owR;go_wp2_with fail
     go_roundw
     case rel=>
      refine⟨k+1,_,by omega,by go_num,Zc.out.1,?_,bK7.setCell ai _⟩;rw[Zc.out.2,Nat.mul_succ];exact iR HOW.out (by simp) _
     case measure=>simp[intOf];omega
   ·obtain rfl:k=h:=by omega
    have r3:=(hb.block w.heap.size hwB).trans r1;obtain⟨q0,q1,q2,z0,z1,z2⟩:=lY.of r3;obtain⟨g,cp,rfl,hg,hgl⟩:=hown.form (Nat.mul_pos hn1 Ac);go_wp2_with fail;have r4:=UN r3 (aa n) (aa k) (.slice (some ⟨g,0,none⟩) (n*k) cp);obtain⟨e0,e1,e2, -, -, -⟩:=lY.of r4;refine bodyPost_ret (v:=.tuple #[.agg #[aa n,aa k,.slice (some ⟨g,0,none⟩) (n*k) cp],.nilIface]) (by simp[results,results25,go_sem,e0,e1,e2]) rfl ?_;refine⟨.inl ⟨hok,_,rfl,?_⟩,((bwr.setCell ai _).setCell ai _).setCell ai _⟩;exact fH (iR (iR (iR hown (by simp;omega) _) (by simp;omega) _) (by simp;omega) _) (by omega)
 ·go_wp2_with fail;have r3:=UN r1 (aa 0) (aa 0) (.slice none 0 0);obtain⟨e0,e1,e2, -, -, -⟩:=lY.of r3;refine bodyPost_ret (v:=.tuple #[.agg #[aa 0,aa 0,.slice none 0 0],.iface 113 (.pointer (some a))]) (by simp[results,results25,go_sem,e0,e1,e2]) rfl ?_;exact⟨.inr ⟨hno,a,rfl⟩,((sS.setCell ai _).setCell ai _).setCell ai _⟩
end
section
abbrev Bs:=List UInt8
inductive Nd where
 |mk (name:Bs) (attrs:List (Bs×Bs)) (kids:List Nd)
def yO (c:UInt8):Bool:=decide (97<=c) && decide (c<=122)
def M8 (c:UInt8):Bool:=decide (48<=c) && decide (c<=57)
def Uh (c:UInt8):Bool:=yO c||M8 c||c==45
def fP (s:Bs):Bool:=match s with
 |[]=>false
 |c::r=>decide ((c::r).length<=12) && yO c && r.all Uh
def isVal (s:Bs):Bool:=decide (s.length<=200) && s.all (fun c=> !(decide (c<32)) && !(decide (126<c)))
structure Fl where
 name:Bs
 attrs:List (Bs×Bs)
 parent:Int
 deep:Nat
mutual
def vZ (k:Nat)(p:Int)(d:Nat):Nd->List Fl
 | .mk nm as1 ks=>⟨nm,as1,p,d⟩::Cx (k+1) k (d+1) ks
def Cx (k:Nat)(p:Int)(d:Nat):List Nd->List Fl
 |[]=>[]
 |n::l=>vZ k p d n++Cx (k+(vZ k p d n).length) p d l
end
theorem UQ (k:Nat)(p:Int)(d:Nat)(n:Nd):∃f r,vZ k p d n=f::r/\f.parent=p:=by
 cases n with
 |mk nm as1 ks=>exact⟨_,_,by rw[vZ],rfl⟩
structure dO where
  name:Bs
  ats:List (Bs×Bs)
  parent:Int
  kids:List Int
abbrev Dm:=Int->Option dO
def bJ (M:Dm)(k:Int)(e:dO):Dm:=fun i=>if i=k then some e else M i
def Ic (M:Dm)(k:Int):Dm:=fun i=>if i=k then none else M i
def iA (M:Dm)(nx:Nat)(L:List dO):Dm:=fun i=>if(nx:Int)<=i/\i<nx+L.length then L[(i-nx).toNat]? else M i
theorem UR (M:Dm)(nx:Nat)(a b:List dO):iA (iA M nx a) (nx+a.length) b=iA M nx (a++b):=by
  funext i;unfold iA;simp only[List.length_append];by_cases h1:((nx+a.length:Nat):Int)<=i/\i<((nx+a.length:Nat):Int)+b.length
  · rw[if_pos h1,if_pos (by omega),List.getElem?_append_right (by omega)]
    congr 1;omega
  · rw[if_neg h1]
    by_cases h2:(nx:Int)<=i/\i<nx+a.length
    · rw[if_pos h2,if_pos (by omega),List.getElem?_append_left (by omega)]
    · rw[if_neg h2,if_neg (by omega)]
theorem UT (M:Dm)(nx:Nat)(e:dO):iA M nx [e]=bJ M nx e:=by
  funext i;unfold iA bJ;by_cases h:i=nx
  · subst h
    rw[if_pos (by simp only[List.length_cons,List.length_nil];omega),if_pos rfl];simp
  · rw[if_neg (by simp only[List.length_cons,List.length_nil];omega),if_neg h]
theorem QN (M:Dm)(nx:Nat)(e e':dO)(L:List dO):bJ (iA M nx (e::L)) nx e'=iA M nx (e'::L):=by
  funext i;unfold iA bJ;by_cases h:i=nx
  · subst h
    rw[if_pos rfl,if_pos (by simp only[List.length_cons];omega)];simp
  · rw[if_neg h]
    show(if(nx:Int)<=i/\i<nx+(e::L).length then(e::L)[(i-nx).toNat]? else M i)=_;by_cases h2:(nx:Int)<=i/\i<nx+(e::L).length
    · rw[if_pos h2,if_pos (by simpa using h2)]
      obtain⟨j,hj⟩:∃j:Nat,(i-nx).toNat=j+1:=⟨(i-nx).toNat-1,by omega⟩;rw[hj];simp
    · rw[if_neg h2,if_neg (by simpa using h2)]
theorem Oy (M:Dm)(nx:Nat)(e:dO)(L:List dO):iA M nx (e::L) nx=some e:=by
  unfold iA;rw[if_pos (by simp only[List.length_cons];omega)];simp
theorem UU {M:Dm}{nx:Nat}{L:List dO}{i:Int}(h:i<nx):iA M nx L i=M i:=by
  unfold iA;rw[if_neg (by omega)]
theorem UW {M:Dm}{nx j:Nat}{L:List dO}(h:j<L.length):iA M nx L ((nx:Int)+j)=L[j]? :=by
  unfold iA;rw[if_pos (by omega)];congr 1;omega
mutual
def gu:Nd->Nat
  | .mk _ _ ks=>jd ks+1
def jd:List Nd->Nat
  |[]=>0
  |n::l=>gu n+jd l
end
theorem Oz (n:Nd):0<gu n:=by cases n;simp[gu]
theorem zb:∀a b:List Nd,jd (a++b)=jd a+jd b
  |[],b=>by simp[jd]
  |n::a,b=>by simp[jd,zb a b];omega
def rP (k:Nat):List Nd->List Int
  |[]=>[]
  |n::l=>(k:Int)::rP (k+gu n) l
theorem Ie:∀(a:List Nd) (k:Nat) (n:Nd),rP k (a++[n])=rP k a++[((k+jd a:Nat):Int)]
  |[],k,n=>by simp[rP,jd]
  |m::a,k,n=>by
    rw[List.cons_append,rP,Ie a,rP,jd];simp[Nat.add_assoc]
mutual
def oK (k:Nat)(p:Int):Nd->List dO
  | .mk nm as1 ks=>⟨nm,as1,p,rP (k+1) ks⟩::qb (k+1) k ks
def qb (k:Nat)(p:Int):List Nd->List dO
  |[]=>[]
  |n::l=>oK k p n++qb (k+gu n) p l
end
mutual
theorem fq:∀(n:Nd) (k:Nat) (p:Int),(oK k p n).length=gu n
  | .mk nm as1 ks,k,p=>by rw[oK,gu,List.length_cons,Fv ks]
theorem Fv:∀(l:List Nd) (k:Nat) (p:Int),(qb k p l).length=jd l
  |[],_,_=>rfl
  |n::l,k,p=>by rw[qb,jd,List.length_append,fq n,Fv l]
end
mutual
theorem OA:∀(n:Nd) (k:Nat) (p:Int) (d:Nat),(vZ k p d n).length=gu n
  | .mk nm as1 ks,k,p,d=>by rw[vZ,gu,List.length_cons,OB ks]
theorem OB:∀(l:List Nd) (k:Nat) (p:Int) (d:Nat),(Cx k p d l).length=jd l
  |[],_,_,_=>rfl
  |n::l,k,p,d=>by rw[Cx,jd,List.length_append,OA n,OB l]
end
theorem Ig:∀(a:List Nd) (k:Nat) (p:Int) (n:Nd),qb k p (a++[n])=qb k p a++oK (k+jd a) p n
  |[],k,p,n=>by simp[qb,jd]
  |m::a,k,p,n=>by
    rw[List.cons_append,qb,Ig a,qb,jd];simp[Nat.add_assoc]
def Dp (M:Dm):Nat->Int->Prop
  |0,_=>False
  |f+1,i=>∀e,M i=some e->∀k∈e.kids,Dp M f k
def pre (M:Dm):Nat->Int->Int->List (Int×Int)
  |0,_,_=>[]
  |f+1,i,d=>match M i with
    |none=>[]
    |some e=>(i,d)::e.kids.flatMap (fun k=>pre M f k (d+1))
end
end Go.Proofs.YtjfiehbcamfdfaaGreatDoor

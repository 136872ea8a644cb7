/-
  Parts of the proof.
-/
import Derived.Test.YtjfiehbcamfdfaaGreatDoorQx38
import Derived.Test.YtjfiehbcamfdfaaGreatDoorQx39
import Derived.Test.YtjfiehbcamfdfaaGreatDoorQx40
namespace Go.Proofs.YtjfiehbcamfdfaaGreatDoor
open Go.Proofs.Tryz
section
open Go.RowKit
set_option maxHeartbeats 16000000
set_option maxRecDepth 20000
def KQ (f g:Fl):Prop:=f.name=g.name/\f.parent=g.parent/\f.attrs=g.attrs
def Alike (a b:List Fl):Prop:=a.length=b.length/\∀(i:Nat) (f g:Fl),a[i]? =some f->b[i]? =some g->KQ f g
abbrev St:=Bs×List (Bs×Bs)×Int
def st (f:Fl):St:=(f.name,f.attrs,f.parent)
theorem Ti {a b:List Fl}(h:Alike a b):a.map st=b.map st:=by
 apply List.ext_getElem?;intro i;rw[List.getElem?_map,List.getElem?_map];rcases Nat.lt_or_ge i a.length with hi|hi
 ·have hj:i<b.length:=by rw[<- h.1];exact hi
  rw[List.getElem?_eq_getElem hi,List.getElem?_eq_getElem hj];obtain⟨h1,h2,h3⟩:=h.2 i _ _ (List.getElem?_eq_getElem hi) (List.getElem?_eq_getElem hj);simp[st,h1,h2,h3]
 ·rw[List.getElem?_eq_none hi,List.getElem?_eq_none (by rw[<- h.1];exact hi)]
mutual
theorem XX:∀(a b:Nd) (k:Nat) (p:Int) (d:Nat) (x y:List St),p<k->(∀f,x.head? =some f->f.2.2<=p)->(∀f,y.head? =some f->f.2.2<=p)->(nu k p d a).map st++x=(nu k p d b).map st++y->a=b/\x=y
 | .mk n1 a1 k1,.mk n2 a2 k2,k,p,d,x,y,hp,hx,hy,h=>by
  simp only[nu,List.map_cons,st,List.cons_append,List.cons.injEq,Prod.mk.injEq,and_true] at h;obtain⟨⟨rfl,rfl⟩,h⟩:=h;obtain⟨rfl,rfl⟩:=XY k1 k2 (k+1) k (d+1) x y (by omega) (fun f hf=>by have:=hx f hf;omega) (fun f hf=>by have:=hy f hf;omega) h;exact⟨rfl,rfl⟩
theorem XY:∀(a b:List Nd) (k:Nat) (p:Int) (d:Nat) (x y:List St),p<k->(∀f,x.head? =some f->f.2.2<p)->(∀f,y.head? =some f->f.2.2<p)->(sI k p d a).map st++x=(sI k p d b).map st++y->a=b/\x=y
 |[],[],_,_,_,_,_,_,_,_,h=>by simpa[sI] using h
 |[],n::b,k,p,d,x,y,hp,hx,hy,h=>by
  obtain⟨f,r,e,hf⟩:=uP k p d n;have:=hx (st f) (by simp only[sI,List.map_nil,List.nil_append,List.map_append,e,List.map_cons] at h;rw[h];rfl);simp only[st] at this;omega
 |n::a,[],k,p,d,x,y,hp,hx,hy,h=>by
  obtain⟨f,r,e,hf⟩:=uP k p d n;have:=hy (st f) (by simp only[sI,List.map_nil,List.nil_append,List.map_append,e,List.map_cons] at h;rw[<- h];rfl);simp only[st] at this;omega
 |n::a,m::b,k,p,d,x,y,hp,hx,hy,h=>by
  simp only[sI,List.map_append,List.append_assoc] at h;have hd:∀(l:List Nd) (q:Nat) (z:List St),(∀f,z.head? =some f->f.2.2<p)->∀f,((sI q p d l).map st++z).head? =some f->f.2.2<=p:=fun l q z hz f hf=>by
   cases l with
   |nil=>have:=hz f (by simpa[sI] using hf);omega
   |cons c l=>
    obtain⟨g,r,e,hg⟩:=uP q p d c;simp[sI,e] at hf;subst hf;simp only[st];omega
  obtain⟨rfl,h'⟩:=XX n m k p d _ _ hp (hd a _ x hx) (hd b _ y hy) h;obtain⟨rfl,rfl⟩:=XY a b _ p d x y (by omega) hx hy h';exact⟨rfl,rfl⟩
end
theorem Tj {a b:Nd}:Alike (nu 0 (-1) 1 a) (nu 0 (-1) 1 b)↔a=b:=by
 constructor
 ·intro h;exact(XX a b 0 (-1) 1 [] [] (by decide) (by simp) (by simp) (by simpa using Ti h)).1
 ·rintro rfl;refine⟨rfl,fun i f g hf hg=>?_⟩;rw[hf] at hg;cases hg;exact⟨rfl,rfl,rfl⟩
theorem Co (W W':World)(M M':List wo)(g g' cap cap':Nat)(L L':List Fl)(w:World)(bW:Below W.heap.size W w)(bW':Below W'.heap.size W' w)(hr:xu w g M)(hr':xu w g' M')(hc:M.length<=cap)(hc':M'.length<=cap')(hl:M.length<=150)(hl':M'.length<=150)(hR:je W M L)(hR':je W' M' L'):
  ak 19 #[.slice (some ⟨g,0,none⟩) M.length cap,.slice (some ⟨g',0,none⟩) M'.length cap'] w fun e w'=>Below w.heap.size w w'/\∃r:Bool,e=.returned (aa (if r=true then 1 else 0))/\(r=true↔Alike L L'):=by
 have hlL:=hR.len;have a4V:=hR'.len;by_cases hne:M.length=M'.length
 ·have HR:Hid (je W M L):=hR;have HR':Hid (je W' M' L'):=hR';have HW:Hid (xu w g M):=hr;have HW':Hid (xu w g' M'):=hr';have hne':(M.length:Int)=(M'.length:Int):=by omega
  have hl2:(M.length:Int)<=150:=by omega
  have hc2:(M.length:Int)<=(cap:Int):=by omega
  have hc3:(M'.length:Int)<=(cap':Int):=by omega
  have HLEN:Hid (L.length=L'.length):=(by omega:L.length=L'.length);clear hR hR' hr hr' hlL a4V;go_enter func19,ntmps19;go_wp2_with fail
  go_loopw [5] (fun y wr=>∃i:Nat,y=aa i/\i<=M.length/\(∀(j:Nat) (f f':Fl),L[j]? =some f->L'[j]? =some f'->j<i->KQ f f')/\Below w.heap.size w wr) (fun y _=>M.length-(intOf y).toNat)
  case atStart=>exact⟨0,rfl,Nat.zero_le _,fun j _ _ _ _ h=>absurd h (Nat.not_lt_zero _),Below.refl _ _⟩
  case round=>
   obtain⟨i,rfl,hi,hsm,hbr⟩:=hrel;have HS:Hid (∀(j:Nat) (f f':Fl),L[j]? =some f->L'[j]? =some f'->j<i->KQ f f'):=hsm;clear hsm;by_cases hlt:i<M.length
   ·have hlt':(i:Int)<(M.length:Int):=by omega
    have hlt2:(i:Int)<(M'.length:Int):=by omega
    obtain⟨x,hx, -⟩:=drop_at hlt;obtain⟨x',hx', -⟩:=drop_at (l:=M') (k:=i) (by omega);obtain⟨f,hf,hf1,hf2,hf3, -, -⟩:=HR.out.get hx;obtain⟨f',hf',hg1,hg2,hg3, -, -⟩:=HR'.out.get hx';obtain⟨r0,r1,r2, -⟩:=HW.out i x hx;obtain⟨s0,s1,s2, -⟩:=HW'.out i x' hx';obtain⟨oa,ca,QW,ha1,ha2, -,ha4⟩:=hf2;obtain⟨ob,cb,hyc,hb1,hb2, -,hb4⟩:=hg2;have q0:=(hbr.cell (ax r0)).trans r0;have q1:=(hbr.cell (ax r1)).trans r1;have q2:=(hbr.cell (ax r2)).trans r2;have t0:=(hbr.cell (ax s0)).trans s0;have t1:=(hbr.cell (ax s1)).trans s1;have t2:=(hbr.cell (ax s2)).trans s2;rw[QW] at q1;rw[hyc] at t1;have HA:Hid (pK W oa f.attrs):=ha4;have HB:Hid (pK W' ob f'.attrs):=hb4;have HF:Hid (L[i]? =some f/\L'[i]? =some f'):=⟨hf,hf'⟩;have HE:Hid (x.nm=f.name/\x'.nm=f'.name/\x.parent=f.parent/\x'.parent=f'.parent):=⟨hf1,hg1,hf3,hg3⟩;have hla:(f.attrs.length:Int)<=9223372036854775807:=by rw[aQ] at ha2;omega
    have hlb:(f'.attrs.length:Int)<=9223372036854775807:=by rw[aQ] at hb2;omega
    clear r0 r1 r2 s0 s1 s2 hx hx' QW hyc ha4 hb4 hf hf' hf1 hg1 hf3 hg3;by_cases e1:x.nm=x'.nm
    ·have e1b:(x.nm==x'.nm)=true:=by rw[e1];simp
     by_cases e2:x.parent=x'.parent
     ·by_cases e3:f.attrs.length=f'.attrs.length
      ·have e3':(f.attrs.length:Int)=(f'.attrs.length:Int):=by omega
       go_upto_region 6 with fail
       go_quiet (fail)
       go_wp2_with fail;have hba:=lX nq hbr;have p1:(wr.drewN nq).cell? (ag g (i*4+1))=some (.slice oa f.attrs.length ca):=q1;have p2:(wr.drewN nq).cell? (ag g' (i*4+1))=some (.slice ob f'.attrs.length cb):=t1;clear q0 q1 q2 t0 t1 t2 hbr;generalize wr.drewN nq=wa at hba p1 p2⊢
       go_loopw [6] (fun y wq=>∃k:Nat,y=aa k/\k<=f.attrs.length/\(∀j,j<k->f.attrs[j]? =f'.attrs[j]?)/\Below wa.heap.size wa wq) (fun y _=>f.attrs.length-(intOf y).toNat)
       case atStart=>exact⟨0,rfl,Nat.zero_le _,fun j h=>absurd h (Nat.not_lt_zero _),Below.refl _ _⟩
       case round=>
        obtain⟨k,rfl,hk,hsk,hbq⟩:=hrel;have HK:Hid (∀j,j<k->f.attrs[j]? =f'.attrs[j]?):=hsk;clear hsk;obtain⟨wq,rfl⟩:∃V,V=wr:=⟨_,rfl⟩;have hwq:=az hba hbq;have bQ:Below W.heap.size W wq:=bW.trans (hwq.mono bW.size);have bQ':Below W'.heap.size W' wq:=bW'.trans (hwq.mono bW'.size);have u1:=(hbq.cell (ax p1)).trans p1;have u2:=(hbq.cell (ax p2)).trans p2;by_cases hlk:k<f.attrs.length
        ·have abG:(k:Int)<(f.attrs.length:Int):=by omega
         have hlk2:(k:Int)<(f'.attrs.length:Int):=by omega
         obtain⟨a,hxa, -⟩:=drop_at hlk;obtain⟨a',a4W, -⟩:=drop_at (l:=f'.attrs) (k:=k) (by omega);obtain⟨b1,o1,rfl,d0,d1, -, -⟩:=HA.out k a hxa;obtain⟨b2,o2,rfl,d2,d3, -, -⟩:=HB.out k a' a4W;have j0:=(bQ.cell (ax d0)).trans d0;have j1:=(bQ.cell (ax d1)).trans d1;have j2:=(bQ'.cell (ax d2)).trans d2;have j3:=(bQ'.cell (ax d3)).trans d3;unfold eD at j0 j1 j2 j3;have HX:Hid (f.attrs[k]? =some a/\f'.attrs[k]? =some a'):=⟨hxa,a4W⟩;clear d0 d1 d2 d3 hxa a4W;by_cases c1:a.1=a'.1
         ·have c1b:(a.1==a'.1)=true:=by rw[c1];simp
          by_cases c2:a.2=a'.2
          ·have c2b:(a.2==a'.2)=true:=by rw[c2];simp
           have HQ:Hid (f.attrs[k]? =f'.attrs[k]?):=(by rw[HX.out.1,HX.out.2];exact congrArg some (Prod.ext c1 c2):f.attrs[k]? =f'.attrs[k]?);go_upto_region 11 with fail
           go_quiet (fail)
           go_wp2_with fail
           go_roundw
           case rel=>exact⟨k+1,by go_num,by omega,fun j hj=>by
            by_cases e:j<k
            ·exact HK.out j e
            ·obtain rfl:j=k:=by omega
             exact HQ.out,lX _ hbq⟩
           case measure=>simp[intOf];omega
          ·have c2b:(a.2==a'.2)=false:=by rw[beq_eq_false_iff_ne];exact c2
           have EE:Hid (¬Alike L L'):=(fun h=>c2 (by have:=(h.2 i f f' HF.out.1 HF.out.2).2.2;have h1:=HX.out.1;rw[this,HX.out.2] at h1;cases h1;rfl):¬Alike L L');go_upto_region 11 with fail
           go_quiet (fail)
           go_wp2_with fail;go_ret;exact⟨lX _ hwq,false,rfl,⟨(fun h=>nomatch h),(fun h=>(EE.out h).elim)⟩⟩
         ·have c1b:(a.1==a'.1)=false:=by rw[beq_eq_false_iff_ne];exact c1
          have EE:Hid (¬Alike L L'):=(fun h=>c1 (by have:=(h.2 i f f' HF.out.1 HF.out.2).2.2;have h1:=HX.out.1;rw[this,HX.out.2] at h1;cases h1;rfl):¬Alike L L');go_upto_region 11 with fail
          go_quiet (fail)
          go_wp2_with fail;go_ret;exact⟨lX _ hwq,false,rfl,⟨(fun h=>nomatch h),(fun h=>(EE.out h).elim)⟩⟩
        ·obtain rfl:k=f.attrs.length:=by omega
         have HQ:Hid (KQ f f'):=(⟨by rw[<- HE.out.1,<- HE.out.2.1];exact e1,by rw[<- HE.out.2.2.1,<- HE.out.2.2.2];exact e2,List.ext_getElem? (fun j=>by
          by_cases e:j<f.attrs.length
          ·exact HK.out j e
          ·rw[List.getElem?_eq_none (by omega),List.getElem?_eq_none (by omega)])⟩:KQ f f')
         go_wp2_with fail
         go_roundw
         case rel=>exact⟨i+1,by go_num,by omega,fun j h h' h1 h2 hj=>by
          by_cases e:j<i
          ·exact HS.out j h h' h1 h2 e
          ·obtain rfl:j=i:=by omega
           rw[HF.out.1] at h1;rw[HF.out.2] at h2;cases h1;cases h2;exact HQ.out,hwq⟩
         case measure=>simp[intOf];omega
      ·have e3':¬(f.attrs.length:Int)=(f'.attrs.length:Int):=by omega
       have EE:Hid (¬Alike L L'):=(fun h=>e3 (by rw[(h.2 i f f' HF.out.1 HF.out.2).2.2]):¬Alike L L');go_upto_region 6 with fail
       go_quiet (fail)
       go_wp2_with fail;go_ret;exact⟨lX _ hbr,false,rfl,⟨(fun h=>nomatch h),(fun h=>(EE.out h).elim)⟩⟩
     ·have EE:Hid (¬Alike L L'):=(fun h=>e2 (by rw[HE.out.2.2.1,HE.out.2.2.2];exact(h.2 i f f' HF.out.1 HF.out.2).2.1):¬Alike L L');go_upto_region 6 with fail
      go_quiet (fail)
      go_wp2_with fail;go_ret;exact⟨lX _ hbr,false,rfl,⟨(fun h=>nomatch h),(fun h=>(EE.out h).elim)⟩⟩
    ·have e1b:(x.nm==x'.nm)=false:=by rw[beq_eq_false_iff_ne];exact e1
     have EE:Hid (¬Alike L L'):=(fun h=>e1 (by rw[HE.out.1,HE.out.2.1];exact(h.2 i f f' HF.out.1 HF.out.2).1):¬Alike L L');go_upto_region 6 with fail
     go_quiet (fail)
     go_wp2_with fail;go_ret;exact⟨lX _ hbr,false,rfl,⟨(fun h=>nomatch h),(fun h=>(EE.out h).elim)⟩⟩
   ·obtain rfl:i=M.length:=by omega
    have hyes:Hid (Alike L L'):=(⟨HLEN.out,fun j f f' h1 h2=>HS.out j f f' h1 h2 (by
     have:=HR.out.len;have:=(List.getElem?_eq_some_iff.1 h1).1;omega)⟩:Alike L L')
    go_wp2_with fail;go_ret;exact⟨hbr,true,rfl,⟨(fun _=>hyes.out),(fun _=>rfl)⟩⟩
 ·have hne':¬(M.length:Int)=(M'.length:Int):=by omega
  have hno:Hid (¬Alike L L'):=(fun h=>hne (by rw[hlL,a4V];exact h.1):¬Alike L L');clear hlL a4V hR hR' hr hr';go_enter func19,ntmps19;go_wp2_with fail;go_ret;exact⟨Below.refl _ _,false,rfl,⟨(fun h=>nomatch h),(fun h=>(hno.out h).elim)⟩⟩
end
section
open Go.RowKit
set_option maxHeartbeats 4000000
theorem XZ {M:Dm}{f:Nat}(hN:∀(n:Nd) (k:Nat) (p:Int),InN M k p n->Dp M f k->yZ M f k=n):∀(ks:List Nd) (k:Nat) (p:Int),InL M k p ks->(∀i∈oh k ks,Dp M f i)->(oh k ks).map (yZ M f)=ks
 |[],_,_,_,_=>rfl
 |n::ks,k,p,h,hd=>by
  obtain⟨h1,h2⟩:=h.parts;rw[oh] at hd⊢;rw[List.map_cons,hN n k p h1 (hd _ (by simp)),XZ hN ks (k+dQ n) p h2 (fun i hi=>hd i (by simp[hi]))]
theorem Y3 {M:Dm}:∀(f:Nat) (n:Nd) (k:Nat) (p:Int),InN M k p n->Dp M f k->yZ M f k=n
 |0,_,_,_,_,hd=>hd.elim
 |f+1,.mk nm ats ks,k,p,h,hd=>by
  obtain⟨h1,h2⟩:=h.parts;rw[yZ,h1];simp only;rw[XZ (Y3 f) ks (k+1) k h2 (fun i hi=>hd _ h1 i hi)]
theorem set_set {M M2:Dm}{n:Int}{nm v o:Bs}(hok:dP M)(h:nO M n nm v=.ok M2)(ho:qa M n nm=some o):nO M2 n nm o=.ok M:=by
 unfold nO at h;cases hm:M n with
 |none=>rw[hm] at h;cases h
 |some e=>
  rw[hm] at h;simp only at h;unfold qa at ho;rw[hm] at ho;have ho:iK e.ats nm=some o:=ho;split at h
  ·cases h
  ·next h1=>
   split at h
   ·cases h
   ·split at h
    ·cases h
    ·cases h;have hm2:jN M n e (gm e.ats nm v) n=some ⟨e.name,gm e.ats nm v,e.parent,e.kids⟩:=by unfold jN gH;rw[if_pos rfl]
     have hov:isVal o=true:=by
      obtain⟨-, -,h3⟩:=hok n e hm;unfold iK at ho;obtain⟨a,ha,rfl⟩:=Option.map_eq_some_iff.1 ho;exact(h3.1 a (List.mem_of_find?_eq_some ha)).2
     unfold nO;rw[hm2];simp only;rw[if_neg h1,if_neg (by simp[hov]),if_neg (by rw[Oe];simp),Uj _ _ _ _ ho];exact congrArg _ (Ih hm _)
theorem Tk {M M2:Dm}{n:Int}{nm v:Bs}(h:nO M n nm v=.ok M2)(ho:qa M n nm=none):jZ M2 n nm=.ok M:=by
 unfold nO at h;cases hm:M n with
 |none=>rw[hm] at h;cases h
 |some e=>
  rw[hm] at h;simp only at h;unfold qa at ho;rw[hm] at ho;have ho:iK e.ats nm=none:=ho;split at h
  ·cases h
  ·split at h
   ·cases h
   ·split at h
    ·cases h
    ·cases h;have hm2:jN M n e (gm e.ats nm v) n=some ⟨e.name,gm e.ats nm v,e.parent,e.kids⟩:=by unfold jN gH;rw[if_pos rfl]
     unfold jZ;rw[hm2];simp only;rw[if_neg (by rw[Oe];simp),YU _ _ _ ho];exact congrArg _ (Ih hm _)
section
variable {W:World}{LB B DB:Nat}{M:Dm}{nx c:Nat}{r:Int->Nat}{rl:List Rl}{l:List Pc}{w h:Nat}
theorem rX.a4X (hl:rX W LB B DB M nx c r rl l w h):vW M rl/\di M rl=.ok l/\dP M:=by
 obtain⟨tg,MB,p,rv,qs,pv,cv,h1,rfl⟩:=hl;refine⟨⟨_,h1.pm,fun x hx=>?_⟩,h1.pm,h1.ok⟩;obtain⟨y,hy,rfl⟩:=List.mem_map.1 hx;exact h1.pk y hy
theorem rX.doc (hl:rX W LB B DB M nx c r rl l w h):ak 16 #[aj LB] W fun e w'=>e=.returned (aj DB)/\W=w':=by
 obtain⟨tg,MB,p,rv,qs,pv,cv,h1, -⟩:=hl;have l0:=aA h1.lb 0 _ rfl;clear h1;go_enter func16,ntmps16;go_wp2_with fail;go_ret;exact⟨rfl,rfl⟩
theorem Y4 {V w1:World}{n:Nd}{s:ByteArray}{o1 o2:Option Addr}{n1 k1 n2 k2:Nat}(hb:Below (V.alloc oZ).heap.size (V.alloc oZ) w1)(hq:mY (fun b=>(V.alloc oZ).heap.size<=b) w1 (.string s) (.slice o1 n1 k1) (.slice o2 n2 k2) n):
  jY w1 V.heap.size (.string ⟨#[]⟩) (.slice none 0 0) (.slice none 0 0)/\(((w1.setCell ⟨V.heap.size,0,none⟩ (.string s)).setCell ⟨V.heap.size,1,none⟩ (.slice o1 n1 k1)).setCell ⟨V.heap.size,2,none⟩ (.slice o2 n2 k2)).heap[V.heap.size]? =some (.cells #[.string s,.slice o1 n1 k1,.slice o2 n2 k2] 25)/\
   mY (fun b=>V.heap.size<=b) (((w1.setCell ⟨V.heap.size,0,none⟩ (.string s)).setCell ⟨V.heap.size,1,none⟩ (.slice o1 n1 k1)).setCell ⟨V.heap.size,2,none⟩ (.slice o2 n2 k2)) (.string s) (.slice o1 n1 k1) (.slice o2 n2 k2) n/\Below V.heap.size V (((w1.setCell ⟨V.heap.size,0,none⟩ (.string s)).setCell ⟨V.heap.size,1,none⟩ (.slice o1 n1 k1)).setCell ⟨V.heap.size,2,none⟩ (.slice o2 n2 k2)):=by
 have hs:(V.alloc oZ).heap.size=V.heap.size+1:=World.size_alloc _ _;have k0:=(hb.block V.heap.size (by omega)).trans (dh V #[.string ⟨#[]⟩,.slice none 0 0,.slice none 0 0] 25);refine⟨jY.of k0,Gb k0 _ _ _,mY.turn (fun b hq _=>?_) n hq,(((az (aW V oZ) hb).setCell (by simp) _).setCell (by simp) _).setCell (by simp) _⟩;have hq:(V.alloc oZ).heap.size<=b:=hq;have hne:b≠V.heap.size:=by omega
 exact⟨by omega,(Below.heap_setCell _ _ _ b hne).trans ((Below.heap_setCell _ _ _ b hne).trans (Below.heap_setCell _ _ _ b hne))⟩
theorem rX.node (hl:rX W LB B DB M nx c r rl l w h):ak 15 #[aj LB] W fun e w'=>NdR W.heap.size (yZ M 11 0) e w'/\Below W.heap.size W w':=by
 obtain⟨tg,MB,p,rv,qs,pv,cv,h1, -⟩:=hl;have l0:=bO oZ (aA h1.lb 0 _ rfl);obtain⟨e0,he0, -⟩:=h1.ds.d.root;have ND:∀V,Below W.heap.size W V->ak 66 #[aj DB,aa 0] V fun e w'=>NdR V.heap.size (yZ M 11 0) e w'/\Below V.heap.size V w':=fun V hV=>Cn h1.ds h1.ok 11 0 V hV (by decide) (h1.ds.d.dp 11 0 e0 he0 (by omega));obtain⟨X,hX⟩:∃X,yZ M 11 0=X:=⟨_,rfl⟩;rw[hX] at ND⊢;clear hX h1 he0;have ND':∀V,Below W.heap.size W V->ak 34 #[aj DB] V fun e w'=>NdR V.heap.size X e w'/\Below V.heap.size V w':=fun V hV=>by
  have N1:=ND (V.alloc oZ) (az hV (aW _ _));clear ND hV l0;go_enter func34,ntmps34;go_wp2_with(go_at_call 66;refine N1.mono ?_;rintro e w1 ⟨⟨s,o1,n1,k1,o2,n2,k2,rfl,hq⟩,hb⟩;obtain⟨⟨c0,c1,c2,f0,f1,f2⟩,r4,hq',hb'⟩:=Y4 hb hq);have e0:=aA r4 0 _ rfl;have e1:=aA r4 1 _ rfl;have e2:=aA r4 2 _ rfl;refine bodyPost_ret (v:=.agg #[.string s,.slice o1 n1 k1,.slice o2 n2 k2]) (by simp[results,results34,go_sem,e0,e1,e2]) rfl ?_;exact⟨⟨s,o1,n1,k1,o2,n2,k2,rfl,hq'⟩,hb'⟩
 have N1:=ND' (W.alloc oZ) (aW _ _);clear ND ND';go_enter func15,ntmps15;go_wp2_with(go_at_call 34;refine N1.mono ?_;rintro e w1 ⟨⟨s,o1,n1,k1,o2,n2,k2,rfl,hq⟩,hb⟩;obtain⟨⟨c0,c1,c2,f0,f1,f2⟩,r4,hq',hb'⟩:=Y4 hb hq);have e0:=aA r4 0 _ rfl;have e1:=aA r4 1 _ rfl;have e2:=aA r4 2 _ rfl;refine bodyPost_ret (v:=.agg #[.string s,.slice o1 n1 k1,.slice o2 n2 k2]) (by simp[results,results15,go_sem,e0,e1,e2]) rfl ?_;exact⟨⟨s,o1,n1,k1,o2,n2,k2,rfl,hq'⟩,hb'⟩
theorem rX.ndn {n:Nd}(hl:rX W LB B DB (dZ n) nx c r rl l w h):yZ (dZ n) 11 0=n:=by
 obtain⟨tg,MB,p,rv,qs,pv,cv,h1, -⟩:=hl;obtain⟨e0,he0, -⟩:=h1.ds.d.root;exact Y3 11 n 0 (-1) (InN.ext _ 0 (-1) n) (h1.ds.d.dp 11 0 e0 he0 (by omega))
theorem rX.lt (hl:rX W LB B DB M nx c r rl l w h):LB<W.heap.size/\DB<W.heap.size:=by
 obtain⟨tg,MB,p,rv,qs,pv,cv,h1, -⟩:=hl;exact⟨aD h1.lb,aD h1.ds.w.doc⟩
theorem Y5 {V:World}{n:Nd}{s:ByteArray}{o1 o2:Option Addr}{n1 k1 n2 k2 N:Nat}(hq:mY (fun b=>N<=b) V (.string s) (.slice o1 n1 k1) (.slice o2 n2 k2) n)(hf:Fit n):
  ak 7 #[.agg #[.string s,.slice o1 n1 k1,.slice o2 n2 k2]] V fun e w'=>∃M g cap,e=.returned (.slice (some ⟨g,0,none⟩) (List.length (α:=wo) M) cap)/\Hid (M.length<=150/\M.length<=cap/\xu w' g M/\je V M (nu 0 (-1) 1 n))/\Below V.heap.size V w':=(yt n _ _ _ V (mY.nd n hq)).mono fun e w' ⟨h1,v,h2,h3⟩=>by
 rcases h3 with⟨h3, -⟩|⟨-,M,g,cap,rfl, -,h4,h5,h6,h7⟩
 ·exact absurd hf h3
 ·exact⟨M,g,cap,h2,⟨h4,h5,h6,h7⟩,h1⟩
theorem rX.attr (hl:rX W LB B DB M nx c r rl l w h)(n:Int)(hn:dH n)(nm:Bs):ak 17 #[aj DB,aa n,.string ⟨nm.toArray⟩] W fun r w'=>r=.returned (.tuple #[.string ⟨((qa M n nm).getD []).toArray⟩,.bool (qa M n nm).isSome])/\Below W.heap.size W w':=by
 obtain⟨tg,MB,p,rv,qs,pv,cv,h1, -⟩:=hl;exact l8 h1.ds.w n hn nm
end
end
end Go.Proofs.YtjfiehbcamfdfaaGreatDoor

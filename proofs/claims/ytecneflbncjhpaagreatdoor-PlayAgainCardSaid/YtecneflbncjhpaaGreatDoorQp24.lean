/- Parts of the proof. -/
import Derived.Test.YtecneflbncjhpaaGreatDoorQp23
namespace Go.Proofs.YtecneflbncjhpaaGreatDoor
open Go.Proofs.Tryz
set_option maxHeartbeats 4000000
section
open Go.RowKit
set_option maxRecDepth 20000
theorem a5V {E:Nat->Addr}{B:Nat}{tg:bP}{W:ag}{DB MB:Nat}{p:Int->Option Nat}{M:Dm}{nx c:Nat}(hE:DE E W)(hd:aX B tg W DB MB p M nx c)(par a:Int)(name:Bs)(hwp:dR par)(hq:M par=none):
  au 155 #[ay DB,aa par,aa a,.string ⟨name.toArray⟩] W fun r w'=>r=.returned (.tuple #[aa 0,eV (E 5)])/\Below W.heap.size W w':=by
 have d0:=hd.d0;have ck:=hE.c5;have HD:=aj hd;have HE:=aj hE;unfold eV;have hpq:=hd.non par hq;go_enter func155,ntmps155;go_upto_region 3 with(at_lookup;refine lC _ rfl _ _ 93 rfl underlying3 underlying93 (eD _) rfl hd.map par rfl hwp hpq ?_);go_region;go_wp2_with fail
 go_ret2
 exact⟨rfl,rfl,rfl,rfl,Nat.le_refl _,fun _ _=>rfl⟩
theorem Yl {E:Nat->Addr}{B:Nat}{tg:bP}{W:ag}{DB MB:Nat}{p:Int->Option Nat}{M:Dm}{nx c:Nat}(hE:DE E W)(hd:aX B tg W DB MB p M nx c)(par a:Int)(name:Bs)(hwp:dR par)(q:gH)(hq:M par=some q)(hkl:q.kids.length<=1000000)(ha:¬a<0)(hal:¬(q.kids.length:Int)<a)(hnm:gG name=true)(d:Nat)(hu:Up M par d)(hdb:d<=1000000)(hdl:10<=d):
  au 155 #[ay DB,aa par,aa a,.string ⟨name.toArray⟩] W fun r w'=>r=.returned (.tuple #[aa 0,eV (E 8)])/\Below W.heap.size W w':=by
 have d0:=hd.d0;have ck:=hE.c8;have HD:=aj hd;have HE:=aj hE;unfold eV;obtain⟨QB,qa,qk,hpq,hq1⟩:=hd.els par q hq;obtain⟨oq,kq,rfl⟩:=aM hq1.kids;have y3:=hq1.c3;have hkl':(q.kids.length:Int)<=1000000:=by omega
 have IN:=fun w=>iN ⟨name.toArray⟩ (by rw[fU];have:=jg hnm;omega) w;have hin:gG (⟨name.toArray⟩:aC).data.toList=true:=by simpa using hnm
 rw[hin] at IN;have DD:=CQ hd par d hwp hu (by omega);have aee:(10:Int)<=(d:Int):=by omega
 go_enter func155,ntmps155;go_upto_region 9 with(first|(at_lookup;refine fq _ rfl _ _ 93 rfl underlying3 underlying93 (eD _) rfl hd.map par rfl hwp QB hpq ?_)|(go_at_call 69;refine(IN _).mono ?_;rintro r w0 ⟨rfl,rfl⟩)|(go_at_call 205;refine DD.mono ?_;rintro r w1 ⟨rfl,b1⟩;have CT:=xZ (HD.out.below b1);have ck1:=(HE.out.below b1 ai).c8)|(go_at_call 206;refine CT.mono ?_;rintro r w2 ⟨rfl,rfl⟩));go_region;go_wp2_with fail
 go_ret2
 exact⟨rfl,b1.os,b1.tape,b1.output,b1.size,b1.block⟩
theorem Ym {E:Nat->Addr}{B:Nat}{tg:bP}{W:ag}{DB MB:Nat}{p:Int->Option Nat}{M:Dm}{nx c:Nat}(hE:DE E W)(hd:aX B tg W DB MB p M nx c)(par a:Int)(name:Bs)(hwp:dR par)(q:gH)(hq:M par=some q)(hkl:q.kids.length<=1000000)(ha:¬a<0)(hal:¬(q.kids.length:Int)<a)(hnm:gG name=true)(d:Nat)(hu:Up M par d)(hdb:d<=1000000)(hdl:d<10)(hc:100<=c):
  au 155 #[ay DB,aa par,aa a,.string ⟨name.toArray⟩] W fun r w'=>r=.returned (.tuple #[aa 0,eV (E 7)])/\Below W.heap.size W w':=by
 have d0:=hd.d0;have ck:=hE.c7;have HD:=aj hd;have HE:=aj hE;unfold eV;obtain⟨QB,qa,qk,hpq,hq1⟩:=hd.els par q hq;obtain⟨oq,kq,rfl⟩:=aM hq1.kids;have y3:=hq1.c3;have hkl':(q.kids.length:Int)<=1000000:=by omega
 have IN:=fun w=>iN ⟨name.toArray⟩ (by rw[fU];have:=jg hnm;omega) w;have hin:gG (⟨name.toArray⟩:aC).data.toList=true:=by simpa using hnm
 rw[hin] at IN;have DD:=CQ hd par d hwp hu (by omega);have aee:¬(10:Int)<=(d:Int):=by omega
 have ahY:(100:Int)<=(c:Int):=by omega
 go_enter func155,ntmps155;go_upto_region 11 with(first|(at_lookup;refine fq _ rfl _ _ 93 rfl underlying3 underlying93 (eD _) rfl hd.map par rfl hwp QB hpq ?_)|(go_at_call 69;refine(IN _).mono ?_;rintro r w0 ⟨rfl,rfl⟩)|(go_at_call 205;refine DD.mono ?_;rintro r w1 ⟨rfl,b1⟩;have CT:=xZ (HD.out.below b1);have ck1:=(HE.out.below b1 ai).c7)|(go_at_call 206;refine CT.mono ?_;rintro r w2 ⟨rfl,rfl⟩));go_region;go_wp2_with fail
 go_ret2
 exact⟨rfl,b1.os,b1.tape,b1.output,b1.size,b1.block⟩
theorem Ur {E:Nat->Addr}{B:Nat}{tg:bP}{W:ag}{DB MB:Nat}{p:Int->Option Nat}{M:Dm}{nx c:Nat}(hE:DE E W)(hd:aX B tg W DB MB p M nx c)(n:Int)(hwn:dR n)(hn:M n=none):
  au 156 #[ay DB,aa n] W fun r w'=>r=.returned (eV (E 5))/\w'=W:=by
 have hpn:=hd.non n hn;have d0:=hd.d0;have c5:=hE.c5;unfold eV;go_enter func156,ntmps156;go_wp2_with(at_lookup;refine lC _ rfl _ _ 93 rfl underlying3 underlying93 (eD _) rfl hd.map n rfl hwn hpn ?_);go_ret;exact⟨rfl,rfl⟩
end
section
open Go.RowKit
theorem uI {B B':Nat}(W:ag)(o o':Option Addr)(k k':Nat)(L:List Int)(h:W.ownsRow B 3 1 (.slice o L.length k) L.length (aU L))(h':W.ownsRow B' 3 1 (.slice o' L.length k') L.length (aU L))(hl:L.length<=1000000):
  au 6 #[.slice o L.length k,.slice o' L.length k'] W fun e w'=>e=.returned (.bool true)/\Below W.heap.size W w':=by
 have HR:=aj h;have HR':=aj h';clear h h';go_enter func6,ntmps6;go_wp2_with fail
 go_loopw [5] (fun y wr=>∃i:Nat,i<=L.length/\y=aa i/\Below W.heap.size W wr) (fun y _=>L.length-(intOf y).toNat)
 case atStart=>exact⟨0,aP _,rfl,aG _ _⟩
 case round=>
  obtain⟨i,hi,rfl,hb⟩:=hrel;by_cases hil:i<L.length
  ·obtain⟨y,hy⟩:∃y,L[i]? =some y:=⟨_,dK hil⟩;obtain⟨g,hg,hc⟩:=dF (aQ HR.out hb) i _ (og hy);obtain⟨g',hg',hc'⟩:=dF (aQ HR'.out hb) i _ (og hy);have ho:o=some ⟨g,0,none⟩:=by
    rcases HR.out.2 with⟨_,e1⟩|⟨g1,cap,cur,e1,_⟩
    ·omega
    ·cases e1;cases hg;rfl
   have ho':o'=some ⟨g',0,none⟩:=by
    rcases HR'.out.2 with⟨_,e1⟩|⟨g1,cap,cur,e1,_⟩
    ·omega
    ·cases e1;cases hg';rfl
   subst ho ho';have a4J:(i:Int)<L.length:=by omega
   clear hg hg';go_wp2_with fail;go_region;go_wp2_with fail
   go_roundw
   case rel=>exact⟨i+1,by omega,by go_num,zu 1 hb⟩
   case measure=>simp[intOf];omega
  ·have a4J:¬(i:Int)<L.length:=by omega
   go_wp2_with fail;go_ret;exact⟨rfl,hb⟩
theorem Ir:∀(K l:List Int),K.Nodup->(∀x∈K,x∈l)->K.length<=l.length
 |[],_,_,_=>aP _
 |k::K,l,h,hs=>by
  have h1:=List.nodup_cons.1 h;have hk:=hs k (by simp);have h2:=Ir K (l.erase k) h1.2 (fun x hx=>(List.mem_erase_of_ne (fun e=>h1.1 (by rw[<- e];exact hx))).2 (hs x (by simp[hx])));rw[List.length_erase_of_mem hk] at h2;have:=List.length_pos_of_mem hk;rw[List.length_cons];omega
section
variable {B:Nat}{tg:bP}{w w':ag}{DB MB:Nat}{p:Int->Option Nat}{M:Dm}{nx c:Nat}
theorem aX.a9W (h:aX B tg w DB MB p M nx c){k:Int}(hk0:0<=k)(hk1:k<nx){b:Nat}{e:gH}{va vk:ah}(hn:U4 B tg w b e va vk)(hw:dR e.parent/\∀k∈e.kids,dR k)
  (hm:gq prog 3 w' MB (fun i=>if i=k then some b else p i) nx (c+1))
  (hs:∀x,x≠MB->w'.heap[x]? =w.heap[x]?) (hz:w.heap.size<=w'.heap.size):aX B (kS tg k b va vk) w' DB MB (fun i=>if i=k then some b else p i) (dZ M k e) nx (c+1):=by
 have old:∀x t,tg x=some t->kS tg k b va vk x=some t:=fun x t ht=>Ch ht hn.tag (fun g hg=>(hn.kZ g hg).1) (fun g hg=>(hn.iO g hg).1);have ne:∀x t,tg x=some t->t≠.map->x≠MB:=fun x t ht h2 e=>h2 (dP (ht.symm.trans (e▸h.jk)));have nne:∀x,tg x=none->x≠MB:=fun x hx e=>(by rw[e,h.jk] at hx;exact absurd hx (by simp));refine⟨(hs DB (ne _ _ h.ji (by simp))).trans h.doc,old _ _ h.ji,hm,old _ _ h.jk,fun i f hf=>?_,fun i hi=>?_,fun x t ht=>?_,fun i f hf=>?_,fun i f hf=>?_,h.few,fun x j hj=>?_⟩
 ·unfold dZ at hf;by_cases hi:i=k
  ·rw[if_pos hi] at hf;cases hf;subst hi;refine⟨b,va,vk,by simp,⟨(hs b (nne b hn.tag)).trans hn.cells,by unfold kS;rw[if_pos rfl],bS hn.ats fun g hg=>?_,fun g hg=>?_,bS hn.kids fun g hg=>?_,fun g hg=>?_⟩⟩
   ·exact hs g (nne g (hn.kZ g hg).1)
   ·unfold kS;rw[if_neg (hn.kZ g hg).2,if_pos hg]
   ·exact hs g (nne g (hn.iO g hg).1)
   ·unfold kS;rw[if_neg (hn.iO g hg).2.1,if_neg (hn.iO g hg).2.2,if_pos hg]
  ·rw[if_neg hi] at hf;obtain⟨b',va',vk',h1,h2⟩:=h.els i f hf;refine⟨b',va',vk',by simp only[if_neg hi];exact h1,h2.turn fun g t ht hk=>⟨old g t ht,?_⟩⟩;exact hs g (ne g t ht (by rcases hk with rfl|rfl|rfl<;>simp))
 ·unfold dZ at hi;by_cases hj:i=k
  ·rw[if_pos hj] at hi;cases hi
  ·rw[if_neg hj] at hi;simp only[if_neg hj];exact h.non i hi
 ·unfold kS at ht;split at ht
  ·rename_i e;subst e;exact⟨hn.low,bI (aI hn.cells) hz⟩
  ·split at ht
   ·rename_i e;have:=hn.ats.lt x e;omega
   ·split at ht
    ·rename_i e;have:=hn.kids.lt x e;omega
    ·have:=h.low x t ht;omega
 ·unfold dZ at hf;by_cases hi:i=k
  ·omega
  ·rw[if_neg hi] at hf;exact h.dom i f hf
 ·unfold dZ at hf;by_cases hi:i=k
  ·rw[if_pos hi] at hf;cases hf;exact hw
  ·rw[if_neg hi] at hf;exact h.wf i f hf
 ·unfold kS at hj;split at hj
  ·have:k=j:=by simpa using hj
   omega
  ·split at hj
   ·have:k=j:=by simpa using hj
    omega
   ·split at hj
    ·have:k=j:=by simpa using hj
     omega
    ·exact h.Nh x j hj
end
def oz (M:Dm)(left:Lit->Bool):Dm:=fun i=>if left (.int .i64 i) then none else M i
theorem OT {M:Dm}{left:Lit->Bool}{k:Int}{e:gH}(hk:M k=some e):oz M (fun z=>left z && !z.sameKey (.int .i64 k))=dZ (oz M left) k e:=by
 funext i;unfold oz dZ;by_cases h:i=k
 ·subst h;simp[Lit.sameKey,hk]
 ·have:(Lit.int .i64 i).sameKey (.int .i64 k)=false:=by simp[Lit.sameKey,h]
  simp[this,h]
theorem Cd.put {M:Dm}{c:Nat}(h:Cd M c){k:Int}(hk:M k=none)(e:gH):Cd (dZ M k e) (c+1):=by
 obtain⟨l,h1,h2,h3⟩:=h;refine⟨k::l,List.nodup_cons.2 ⟨fun hm=>(h3 k).1 hm hk,h1⟩,by simp[h2],fun x=>?_⟩;unfold dZ;by_cases hx:x=k
 ·subst hx;simp
 ·rw[if_neg hx,<- h3 x];simp[hx]
theorem Cd.uniq {M:Dm}{c d:Nat}(h:Cd M c)(k:Cd M d):c=d:=by
 obtain⟨l,h1,rfl,h3⟩:=h;obtain⟨m,k1,rfl,k3⟩:=k;exact List.Perm.length_eq ((List.perm_ext_iff_of_nodup h1 k1).2 fun x=>(h3 x).trans (k3 x).symm)
theorem Cd.a5W {M L:Dm}{c d:Nat}(h:Cd L c)(k:Cd M d)(hs:∀i f,L i=some f->∃g,M i=some g){x:Int}(hx:L x=none)(hm:∃e,M x=some e):c+1<=d:=by
 obtain⟨l,h1,rfl,h3⟩:=h;obtain⟨m,k1,rfl,k3⟩:=k;have hn:x ∉ l:=fun hl=>(h3 x).1 hl hx;refine Ir (x::l) m (List.nodup_cons.2 ⟨hn,h1⟩) fun y hy=>(k3 y).2 ?_;rcases List.mem_cons.1 hy with rfl|hy
 ·obtain⟨e,he⟩:=hm;rw[he];simp
 ·cases hf:L y with
  |none=>exact absurd hf ((h3 y).1 hy)
  |some f=>obtain⟨g,hg⟩:=hs y f hf;rw[hg];simp
end
end Go.Proofs.YtecneflbncjhpaaGreatDoor

/-
  Parts of the proof.
-/
import Derived.Test.YtjfiehbcamfdfaaGreatDoorQx14
namespace Go.Proofs.YtjfiehbcamfdfaaGreatDoor
open Go.Proofs.Tryz
section
open Go.RowKit
set_option maxHeartbeats 2000000
theorem Rb (l:List Int):∀u∈bY l,u.oneCell'=true:=fun u hu=>by
 unfold bY at hu;obtain⟨k,_,rfl⟩:=List.mem_map.1 hu;rfl
theorem VW {B:Nat}(w:World)(v:Value)(L:List Int)(h:w.ownsRow B 3 1 v L.length (bY L))(hl:L.length<=1000000):
  ak 56 #[v] w fun e w'=>∃o k,e=.returned (.slice o L.length k)/\w'.ownsRow w.heap.size 3 1 (.slice o L.length k) L.length (bY L)/\Below w.heap.size w w':=by
 have q22:∀(w:World) (a:Option Addr) (n c n' c':Nat),(binOp .eql 42 (.slice a n c) (.slice none n' c')).run prog w=.ok (.bool a.isNone) w:=fun w a n c n' c'=>Lib.run_eql_slice_nil w _ _ a n c n' c' underlying42;obtain⟨i0,hi,hz0,hz1,hz2⟩:=info_parts yX;have HN0:∀g cap,v=.slice (some ⟨g,0,none⟩) L.length cap->∀j u,(bY L)[j]? =some u->w.cell? ((⟨g,0,none⟩:Addr).add j)=some u:=fun g cap hv j u hu=>by
  obtain⟨g',hg,hc⟩:=bJ h j u hu;rw[hv] at hg;have hadd:(⟨g,0,none⟩:Addr).add j=⟨g,0+j,none⟩:=by unfold Addr.add;split<;>simp_all
  cases hg;rw[hadd,Nat.zero_add];exact hc
 rcases h.2 with⟨rfl,hn⟩|⟨g,cap,cur,rfl,_,_,h1,h2,_,_⟩
 ·have hz:L=[]:=List.length_eq_zero_iff.1 hn;subst hz;go_enter func56,ntmps56;go_wp2_with fail;go_ret;exact⟨none,0,rfl,World.ownsRow_nil _ _ _ _,Below.refl _ _⟩
 ·have HN:Hid (∀j u,(bY L)[j]? =some u->w.cell? ((⟨g,0,none⟩:Addr).add j)=some u):=HN0 g cap rfl;have HO:Hid (∀u∈bY L,u.oneCell'=true):=Rb L;clear HN0;go_enter func56,ntmps56;go_wp2_with(at_builtin;refine wpList_append_own _ rfl _ _ 42 rfl w.heap.size 3 i0 (aa 0) 1 8 underlying42 hi hz0 hz1 hz2 rfl (by decide) _ _ _ rfl (World.ownsRow_made w #[] 0 Nat.le.refl (Nat.zero_le _) (by simp)) ⟨g,0,none⟩ L.length cap (bY L) rfl (by rw[QN,Nat.mul_one]) (fun j u hj=>bO _ (HN.out j u hj)) HO.out (by rw[aQ];omega) (by omega) (by simp) ?_;intro v7 w7 jQ lU _;obtain⟨o7,nH,rfl⟩:=aI jQ);go_ret;rw[Nat.zero_add,List.nil_append] at jQ;exact⟨o7,nH,rfl,jQ,((Below.refl _ w).alloc Nat.le.refl _).grown lU (by simp) (fun k hk=>by have hk':some w.heap.size=some k:=hk;cases hk';exact Nat.le_refl _)⟩
def pO (M:Dm)(n:Int):List Int:=match M n with|none=>[]|some e=>e.kids
theorem VX {B:Nat}{tg:cz}{w:World}{DB MB:Nat}{p:Int->Option Nat}{M:Dm}{nx c:Nat}(h:bG B tg w DB MB p M nx c)(n:Int)(hn:dH n)(hl:(pO M n).length<=1000000):
  ak 196 #[aj DB,aa n] w fun r w'=>∃o k,r=.returned (.slice o (pO M n).length k)/\w'.ownsRow w.heap.size 3 1 (.slice o (pO M n).length k) (pO M n).length (bY (pO M n))/\Below w.heap.size w w':=by
 have d0:=h.d0;unfold pO at hl⊢;cases hm:M n with
 |none=>
  have hp:=h.non n hm;go_enter func196,ntmps196;go_wp2_with(at_lookup;refine lY _ rfl _ _ 83 rfl underlying3 underlying83 (eG _) rfl h.map n rfl hn hp ?_);go_ret;exact⟨none,0,rfl,World.ownsRow_nil _ _ _ _,Below.refl _ _⟩
 |some e=>
  rw[hm] at hl;obtain⟨b,va,vk,hp,he⟩:=h.els n e hm;have x0:=he.c3;obtain⟨ok,kk,rfl⟩:=aI he.kids;have CL:=VW w _ e.kids he.kids hl;go_enter func196,ntmps196;go_wp2_with(first|(at_lookup;refine eY _ rfl _ _ 83 rfl underlying3 underlying83 (eG _) rfl h.map n rfl hn b hp ?_)|(go_at_call 56;refine CL.mono ?_;rintro e1 w1 ⟨o1,k1,rfl,ho1,hb1⟩));go_ret;exact⟨o1,k1,rfl,ho1,hb1⟩
theorem a02 {B:Nat}{tg:cz}{W:World}{DB MB:Nat}{p:Int->Option Nat}{M:Dm}{nx c:Nat}(hd:bG B tg W DB MB p M nx c)(f:Nat)(hf:f<=900000)(hp:Dp M f 0)(hl:(jm M f 0).length<=1000000):
  ak 237 #[aj DB] W fun e w'=>∃o k,e=.returned (.slice o (jm M f 0).length k)/\Below W.heap.size W w'/\w'.ownsRow (W.heap.size+1) 3 1 (.slice o (jm M f 0).length k) (jm M f 0).length (bY (jm M f 0)):=by
 have FD:=Vn hd f 0 hf hp (by decide) hl;go_enter func237,ntmps237;go_wp2_with(go_at_call 107;refine FD.mono ?_;rintro e1 w1 ⟨o1,k1,rfl,hb1,ho1⟩);go_ret;exact⟨o1,k1,rfl,hb1,ho1⟩
end
section
open Go.RowKit
set_option maxHeartbeats 2000000
theorem tJ {B B':Nat}(W:World)(o o':Option Addr)(k k':Nat)(L:List Int)(h:W.ownsRow B 3 1 (.slice o L.length k) L.length (bY L))(h':W.ownsRow B' 3 1 (.slice o' L.length k') L.length (bY L))(hl:L.length<=1000000):
  ak 18 #[.slice o L.length k,.slice o' L.length k'] W fun e w'=>e=.returned (.bool true)/\Below W.heap.size W w':=by
 have HR:Hid (W.ownsRow B 3 1 (.slice o L.length k) L.length (bY L)):=h;have HR':Hid (W.ownsRow B' 3 1 (.slice o' L.length k') L.length (bY L)):=h';clear h h';go_enter func18,ntmps18;go_wp2_with fail
 go_loopw [5] (fun y wr=>∃i:Nat,i<=L.length/\y=aa i/\Below W.heap.size W wr) (fun y _=>L.length-(intOf y).toNat)
 case atStart=>exact⟨0,Nat.zero_le _,rfl,Below.refl _ _⟩
 case round=>
  obtain⟨i,hi,rfl,hb⟩:=hrel;by_cases hil:i<L.length
  ·obtain⟨y,hy⟩:∃y,L[i]? =some y:=⟨_,List.getElem?_eq_getElem hil⟩;obtain⟨g,hg,hc⟩:=bJ (aK HR.out hb) i _ (wW hy);obtain⟨g',hg',hc'⟩:=bJ (aK HR'.out hb) i _ (wW hy);have ho:o=some ⟨g,0,none⟩:=by
    rcases HR.out.2 with⟨_,e1⟩|⟨g1,cap,cur,e1,_⟩
    ·omega
    ·cases e1;cases hg;rfl
   have ho':o'=some ⟨g',0,none⟩:=by
    rcases HR'.out.2 with⟨_,e1⟩|⟨g1,cap,cur,e1,_⟩
    ·omega
    ·cases e1;cases hg';rfl
   subst ho ho';have a3c:(i:Int)<L.length:=by omega
   clear hg hg';go_wp2_with fail;go_region;go_wp2_with fail
   go_roundw
   case rel=>exact⟨i+1,by omega,by go_num,lX 1 hb⟩
   case measure=>simp[intOf];omega
  ·have a3c:¬(i:Int)<L.length:=by omega
   go_wp2_with fail;go_ret;exact⟨rfl,hb⟩
theorem G9:∀(K l:List Int),K.Nodup->(∀x∈K,x∈l)->K.length<=l.length
 |[],_,_,_=>Nat.zero_le _
 |k::K,l,h,hs=>by
  have h1:=List.nodup_cons.1 h;have hk:=hs k (by simp);have h2:=G9 K (l.erase k) h1.2 (fun x hx=>(List.mem_erase_of_ne (fun e=>h1.1 (by rw[<- e];exact hx))).2 (hs x (by simp[hx])));rw[List.length_erase_of_mem hk] at h2;have:=List.length_pos_of_mem hk;rw[List.length_cons];omega
end
section
open Go.RowKit
section
variable {B:Nat}{tg:cz}{w w':World}{DB MB:Nat}{p:Int->Option Nat}{M:Dm}{nx c:Nat}
theorem bG.a7C (h:bG B tg w DB MB p M nx c){k:Int}(hk0:0<=k)(hk1:k<nx){b:Nat}{e:iy}{va vk:Value}(hn:Vd B tg w b e va vk)(hw:dH e.parent/\∀k∈e.kids,dH k)
  (hm:iA prog 3 w' MB (fun i=>if i=k then some b else p i) nx (c+1))
  (hs:∀x,x≠MB->w'.heap[x]? =w.heap[x]?) (hz:w.heap.size<=w'.heap.size):bG B (lJ tg k b va vk) w' DB MB (fun i=>if i=k then some b else p i) (gH M k e) nx (c+1):=by
 have old:∀x t,tg x=some t->lJ tg k b va vk x=some t:=fun x t ht=>Ji ht hn.tag (fun g hg=>(hn.lI g hg).1) (fun g hg=>(hn.jX g hg).1);have ne:∀x t,tg x=some t->t≠.map->x≠MB:=fun x t ht h2 e=>h2 (Option.some.inj (ht.symm.trans (e▸h.kF)));have nne:∀x,tg x=none->x≠MB:=fun x hx e=>(by rw[e,h.kF] at hx;exact absurd hx (by simp));refine⟨(hs DB (ne _ _ h.jP (by simp))).trans h.doc,old _ _ h.jP,hm,old _ _ h.kF,fun i f hf=>?_,fun i hi=>?_,fun x t ht=>?_,fun i f hf=>?_,fun i f hf=>?_,h.few,fun x j hj=>?_⟩
 ·unfold gH at hf;by_cases hi:i=k
  ·rw[if_pos hi] at hf;cases hf;subst hi;refine⟨b,va,vk,by simp,⟨(hs b (nne b hn.tag)).trans hn.cells,by unfold lJ;rw[if_pos rfl],bS hn.ats fun g hg=>?_,fun g hg=>?_,bS hn.kids fun g hg=>?_,fun g hg=>?_⟩⟩
   ·exact hs g (nne g (hn.lI g hg).1)
   ·unfold lJ;rw[if_neg (hn.lI g hg).2,if_pos hg]
   ·exact hs g (nne g (hn.jX g hg).1)
   ·unfold lJ;rw[if_neg (hn.jX g hg).2.1,if_neg (hn.jX g hg).2.2,if_pos hg]
  ·rw[if_neg hi] at hf;obtain⟨b',va',vk',h1,h2⟩:=h.els i f hf;refine⟨b',va',vk',by simp only[if_neg hi];exact h1,h2.turn fun g t ht hk=>⟨old g t ht,?_⟩⟩;exact hs g (ne g t ht (by rcases hk with rfl|rfl|rfl<;>simp))
 ·unfold gH at hi;by_cases hj:i=k
  ·rw[if_pos hj] at hi;cases hi
  ·rw[if_neg hj] at hi;simp only[if_neg hj];exact h.non i hi
 ·unfold lJ at ht;split at ht
  ·rename_i e;subst e;exact⟨hn.low,Nat.lt_of_lt_of_le (aD hn.cells) hz⟩
  ·split at ht
   ·rename_i e;have:=hn.ats.lt x e;omega
   ·split at ht
    ·rename_i e;have:=hn.kids.lt x e;omega
    ·have:=h.low x t ht;omega
 ·unfold gH at hf;by_cases hi:i=k
  ·omega
  ·rw[if_neg hi] at hf;exact h.dom i f hf
 ·unfold gH at hf;by_cases hi:i=k
  ·rw[if_pos hi] at hf;cases hf;exact hw
  ·rw[if_neg hi] at hf;exact h.wf i f hf
 ·unfold lJ at hj;split at hj
  ·have:k=j:=by simpa using hj
   omega
  ·split at hj
   ·have:k=j:=by simpa using hj
    omega
   ·split at hj
    ·have:k=j:=by simpa using hj
     omega
    ·exact h.Tu x j hj
end
def nM (M:Dm)(left:Lit->Bool):Dm:=fun i=>if left (.int .i64 i) then none else M i
theorem MX {M:Dm}{left:Lit->Bool}{k:Int}{e:iy}(hk:M k=some e):nM M (fun z=>left z && !z.sameKey (.int .i64 k))=gH (nM M left) k e:=by
 funext i;unfold nM gH;by_cases h:i=k
 ·subst h;simp[Lit.sameKey,hk]
 ·have:(Lit.int .i64 i).sameKey (.int .i64 k)=false:=by simp[Lit.sameKey,h]
  simp[this,h]
theorem Cd.put {M:Dm}{c:Nat}(h:Cd M c){k:Int}(hk:M k=none)(e:iy):Cd (gH M k e) (c+1):=by
 obtain⟨l,h1,h2,h3⟩:=h;refine⟨k::l,List.nodup_cons.2 ⟨fun hm=>(h3 k).1 hm hk,h1⟩,by simp[h2],fun x=>?_⟩;unfold gH;by_cases hx:x=k
 ·subst hx;simp
 ·rw[if_neg hx,<- h3 x];simp[hx]
theorem Cd.uniq {M:Dm}{c d:Nat}(h:Cd M c)(k:Cd M d):c=d:=by
 obtain⟨l,h1,rfl,h3⟩:=h;obtain⟨m,k1,rfl,k3⟩:=k;exact List.Perm.length_eq ((List.perm_ext_iff_of_nodup h1 k1).2 fun x=>(h3 x).trans (k3 x).symm)
theorem Cd.a3A {M L:Dm}{c d:Nat}(h:Cd L c)(k:Cd M d)(hs:∀i f,L i=some f->∃g,M i=some g){x:Int}(hx:L x=none)(hm:∃e,M x=some e):c+1<=d:=by
 obtain⟨l,h1,rfl,h3⟩:=h;obtain⟨m,k1,rfl,k3⟩:=k;have hn:x ∉ l:=fun hl=>(h3 x).1 hl hx;refine G9 (x::l) m (List.nodup_cons.2 ⟨hn,h1⟩) fun y hy=>(k3 y).2 ?_;rcases List.mem_cons.1 hy with rfl|hy
 ·obtain⟨e,he⟩:=hm;rw[he];simp
 ·cases hf:L y with
  |none=>exact absurd hf ((h3 y).1 hy)
  |some f=>obtain⟨g,hg⟩:=hs y f hf;rw[hg];simp
end
end Go.Proofs.YtjfiehbcamfdfaaGreatDoor

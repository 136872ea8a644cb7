/- Parts of the proof. -/
import Derived.Test.YtjfiehbcamfdfaaGreatDoorQz21
namespace Go.Proofs.YtjfiehbcamfdfaaGreatDoor
open Go.Proofs.Tryz
set_option maxHeartbeats 4000000
section
open Go.RowKit
set_option maxRecDepth 20000
theorem WW (M:Dm):o6 M []=M:=by funext i;simp[o6]
theorem JQ {E:Nat->Addr}{B:Nat}{tg:bf}{W:ag}{DB MB:Nat}{p:Int->Option Nat}{M:Dm}{nx c:Nat}(hE:DE E W)(hd:aO B tg W DB MB p M nx c)(e:dO)(hn:M 0=some e):
  ax 58 #[ay DB,aa 0] W fun r w'=>r=.returned (eV (E 3))/\w'=W:=by
 obtain⟨EB,va,vk,hpn,he⟩:=hd.els 0 e hn;have d0:=hd.d0;have c3:=hE.c3;unfold eV;go_enter func58,ntmps58;go_wp2_with(at_lookup;refine bu _ rfl _ _ 83 rfl underlying3 underlying83 (aW _) rfl hd.map 0 rfl (by decide) EB hpn ?_);go_ret;exact⟨rfl,rfl⟩
theorem Nf {B:Nat}{tg:bf}{W:ag}{DB MB:Nat}{p:Int->Option Nat}{M:Dm}{nx c:Nat}(hd:aO B tg W DB MB p M nx c)(n:Int)(e q:dO)(hn:M n=some e)(hn0:n≠0)(hq:M e.parent=some q)(hk:q.kids≠[])(f:Nat)(hf:f<=900000)(L:List Int)
  (hp:Dp (bJ M e.parent ⟨q.name,q.ats,q.parent,um q.kids n⟩) f n) (hL:dw (bJ M e.parent ⟨q.name,q.ats,q.parent,um q.kids n⟩) f n=L) (hin:∀k∈L,bJ M e.parent ⟨q.name,q.ats,q.parent,um q.kids n⟩ k≠none) (hnd:L.Nodup) (hll:L.length<=1000000):
  ax 58 #[ay DB,aa n] W fun r w'=>r=.returned .nilIface/\KT tg W w'/\∃gF p',(∀x,x<W.heap.size->gF x=tg x)/\aO B gF w' DB MB p' (o6 (bJ M e.parent ⟨q.name,q.ats,q.parent,um q.kids n⟩) L) nx (c-L.length):=by
 obtain⟨EB,va,vk,hpn,he⟩:=hd.els n e hn;have hwn:=hd.i64 hn;have d0:=hd.d0;have TO:=yJ hd n e q hn hq hk;have Sm:(n==0)=false:=by rw[beq_eq_false_iff_ne];exact hn0
 obtain⟨M1,hM1⟩:∃M1,bJ M e.parent ⟨q.name,q.ats,q.parent,um q.kids n⟩=M1:=⟨_,rfl⟩;rw[hM1] at TO hp hL hin⊢;clear hM1;go_enter func58,ntmps58;go_upto_region 7 with(first|(at_lookup;refine bu _ rfl _ _ 83 rfl underlying3 underlying83 (aW _) rfl hd.map n rfl hwn EB hpn ?_)|(go_at_call 106;refine TO.mono ?_;rintro r w1 ⟨rfl,kt1,kJ,tk1,d1⟩));have FR:=l8 d1 f n hf hp hwn (by rw[hL];exact hll);rw[hL] at FR;have HIN:=aj hin;have HND:Hid L.Nodup:=hnd;have HKT:Hid (KT tg W w1/\∀x,x<W.heap.size->kJ x=tg x):=⟨kt1,tk1⟩;clear hin hnd TO hp hL;go_wp2_with(go_at_call 107;refine FR.mono ?_;rintro r w2 ⟨o2,k2,rfl,b2,Ls⟩);have d2:=d1.below b2;have HD2:=aj d2;have lM:MB<w1.heap.size:=d1.map.lt;have HB2:=aj b2;clear d1 d2 b2 FR d0 kt1 tk1
 go_loopw [33] (fun y wr=>∃(i:Nat) (p':Int->Option Nat),i<=L.length/\y=aa i/\w2.grownBy wr (some MB)/\aO B kJ wr DB MB p' (o6 M1 (L.take i)) nx (c-i)) (fun y _=>L.length-(intOf y).toNat)
 case atStart=>exact⟨0,p,Nat.zero_le _,rfl,⟨rfl,rfl,rfl,Nat.le_refl _,fun _ _ _=>rfl⟩,by rw[List.take_zero,WW];exact HD2.out⟩
 case round=>
  obtain⟨i,p',hi,rfl,hg,hdi⟩:=hrel;by_cases hlt:i<L.length
  ·have hlt':(i:Int)<(L.length:Int):=by omega
   obtain⟨k,hx, -⟩:=drop_at hlt;obtain⟨g,hgb,hc⟩:=bO Ls i _ (kI hx);have hov:o2=some ⟨g,0,none⟩:=by
    obtain⟨o',cap',h1, -, -, -,h2⟩:=bS Ls;cases h1;exact h2 g hgb
   subst hov;have hgM:g≠MB:=by have:=(Ls.lt g hgb).1;omega
   have hcw:=(World.cell?_of_block (a:=⟨g,i,none⟩) (hg.block g (Ls.lt g hgb).2 (fun e1=>hgM (Option.some.inj e1)))).trans hc;have hkm:k∈L:=List.mem_of_getElem? hx;have hnk:k ∉ L.take i:=fun hm=>by
    have:=HND.out;rw[<- List.take_append_drop i L] at this;exact(List.nodup_append.1 this).2.2 k hm k (by
     obtain⟨y,hy,hdr⟩:=drop_at hlt;rw[hx] at hy;cases hy;rw[hdr];simp) rfl
   obtain⟨fk,hfk⟩:∃fk,o6 M1 (L.take i) k=some fk:=by
    unfold o6;rw[if_neg hnk];cases hm:M1 k with
    |none=>exact absurd hm (HIN.out k hkm)
    |some fk=>exact⟨fk,rfl⟩
   obtain⟨kb,ka,kk,hpk, -⟩:=hdi.els k fk hfk;have hwk:=hdi.i64 hfk;have d0:=hdi.d0;have htk:o6 M1 (L.take (i+1))=Ic (o6 M1 (L.take i)) k:=by
    rw[List.take_add_one,hx];exact Sk _ _ _
   have HTK:=aj htk;clear htk hx hkm hnk hc hgb;go_wp2_with(at_delete;refine Rn _ rfl _ _ 83 3 rfl underlying3 underlying83 rfl hdi.map k rfl hwk kb hpk ?_;intro w3 pm3 ht3);have HD3:Hid (aO B kJ w3 DB MB (fun j=>if j=k then none else p' j) (o6 M1 (L.take (i+1))) nx (c-(i+1))):=(by rw[HTK.out,Nat.sub_add_eq];exact hdi.cut pm3 ht3:aO B kJ w3 DB MB (fun j=>if j=k then none else p' j) (o6 M1 (L.take (i+1))) nx (c-(i+1)));have hg3:w2.grownBy w3 (some MB):=hg.trans ht3.grown
   go_roundw
   case rel=>exact⟨i+1,_,by omega,by go_num,hg3,HD3.out⟩
   case measure=>simp[intOf];omega
  ·obtain rfl:i=L.length:=by omega
   have hge:¬(L.length:Int)<(L.length:Int):=by omega
   rw[List.take_length] at hdi;go_wp2_with fail;go_ret;refine⟨rfl,?_,kJ,HKT.out.2,p',hdi⟩;have kt:=HKT.out.1;have bb:=HB2.out;refine kt.trans (gF:=kJ) ⟨hg.os.trans bb.os,hg.tape.trans bb.tape,hg.output.trans bb.output,Nat.le_trans bb.size hg.size,fun b hb ht=>?_⟩ HKT.out.2;exact(hg.block b (Nat.lt_of_lt_of_le hb bb.size) (fun e1=>by have e2:=Option.some.inj e1;rw[e2,hdi.jg] at ht;cases ht)).trans (bb.block b hb)
end
section
open Go.RowKit
def JR:Array ah->Nat->List ah->Array ah
 |cur,_,[]=>cur
 |cur,o,v::r=>JR (cur.setIfInBounds o v) (o+1) r
theorem j6:∀(vs:List ah) (cur:Array ah) (o:Nat),(JR cur o vs).size=cur.size
 |[],_,_=>rfl
 |v::r,cur,o=>by rw[JR,j6 r];simp
theorem ni:∀(vs:List ah) (cur:Array ah) (o j:Nat),o+vs.length<=cur.size->(JR cur o vs)[j]? =if o<=j/\j<o+vs.length then vs[j-o]? else cur[j]?
 |[],cur,o,j,_=>by rw[JR,if_neg (by simp only[List.length_nil];omega)]
 |v::r,cur,o,j,h=>by
  rw[List.length_cons] at h;rw[JR,ni r _ _ _ (by simp;omega)];by_cases h1:o+1<=j/\j<o+1+r.length
  ·rw[if_pos h1,if_pos (by rw[List.length_cons];omega),show j-o=(j-(o+1))+1 from by omega];simp
  ·rw[if_neg h1,Array.getElem?_setIfInBounds];by_cases h2:o=j
   ·subst h2;rw[if_pos rfl,if_pos (by omega),if_pos (by rw[List.length_cons];omega)];simp
   ·rw[if_neg h2,if_neg (by rw[List.length_cons];omega)]
theorem setCells_at:∀(vs:List ah) (w:ag) (g o:Nat) (cur:Array ah) (t:TypeId),w.heap[g]? =some (.cells cur t)->(w.setCells g o vs).heap[g]? =some (.cells (JR cur o vs) t)
 |[],_,_,_,_,_,h=>h
 |v::r,w,g,o,cur,t,h=>by
  rw[World.setCells,JR];exact setCells_at r _ g (o+1) _ t (heap_setCell_same w g o cur t v h)
theorem og:∀(vs:List ah) (w:ag) (g o x:Nat),x≠g->(w.setCells g o vs).heap[x]? =w.heap[x]?
 |[],_,_,_,_,_=>rfl
 |v::r,w,g,o,x,h=>by
  rw[World.setCells,og r _ g (o+1) x h];exact Below.heap_setCell _ _ _ x h
theorem dB:∀(vs:List ah) (w:ag) (g o:Nat),w.grownBy (w.setCells g o vs) (some g)
 |[],w,g,o=>⟨rfl,rfl,rfl,Nat.le_refl _,fun _ _ _=>rfl⟩
 |v::r,w,g,o=>by
  rw[World.setCells];have h1:=dB r (w.setCell ⟨g,o,none⟩ v) g (o+1);have h2:=(Below.refl g w).setCell (p:=⟨g,o,none⟩) ai v;have h3:w.grownBy (w.setCell ⟨g,o,none⟩ v) (some g):=⟨h2.os,h2.tape,h2.output,h2.size,fun x _ hx=>Below.heap_setCell _ _ _ x (fun e=>hx (by rw[e]))⟩;exact h3.trans h1
def dG (L:List Int)(i:Nat)(k:Int):List Int:=L.take i++k::L.drop i
theorem xA (L:List Int)(i:Nat)(k:Int)(h:i<=L.length):(dG L i k).length=L.length+1:=by
 unfold dG;simp;omega
theorem rC (L:List Int)(i j:Nat)(k:Int)(h:i<=L.length):(bD (dG L i k))[j]? =if j<i then(bD L)[j]? else if j=i then some (aa k) else(bD L)[j-1]? :=by
 unfold dG bD;rw[List.getElem?_map,List.getElem?_map,List.getElem?_map];by_cases h1:j<i
 ·rw[if_pos h1,List.getElem?_append_left (by simp;omega),List.getElem?_take,if_pos h1]
 ·rw[if_neg h1,List.getElem?_append_right (by simp;omega),List.length_take,Nat.min_eq_left h];by_cases h2:j=i
  ·subst h2;rw[if_pos rfl,Nat.sub_self];rfl
  ·rw[if_neg h2,show j-i=(j-i-1)+1 from by omega,List.getElem?_cons_succ,List.getElem?_drop,show i+(j-i-1)=j-1 from by omega]
theorem a0k {cur:Array ah}{xs:List ah}{n:Nat}(hn:xs.length=n)(h:∀j,j<n->cur[j]? =xs[j]?):cur.toList.take (n*1)=xs:=by
 apply List.ext_getElem?;intro j;rw[Nat.mul_one,List.getElem?_take];by_cases hj:j<n
 ·rw[if_pos hj,Array.getElem?_toList];exact h j hj
 ·rw[if_neg hj,List.getElem?_eq_none (by omega)]
theorem Ng {w w':ag}{r:Option Nat}{k:Nat}(h:(w.drewN k).grownBy w' r):w.grownBy w' r:=⟨h.os,h.tape,h.output,h.size,h.block⟩
theorem vN {w:ag}{B g cap n:Nat}{cur:Array ah}{xs:List ah}(hB:B<=g)(hg:w.heap[g]? =some (.cells cur 3))(h1:xs.length=n)(h2:n<=cap)(h3:cap<=maxLen)(h4:cur.size=cap)(h5:∀j,j<n->cur[j]? =xs[j]?):w.ownsRow B 3 1 (.slice (some ⟨g,0,none⟩) n cap) n xs:=
 ⟨by rw[h1,Nat.mul_one],.inr ⟨g,cap,cur,rfl,hB,hg,h2,h3,by rw[h4,Nat.mul_one],a0k h1 h5⟩⟩
theorem Sn (w:ag)(o:Obj)(g i j:Nat)(a b:List ah):w.heap.size<=((((w.alloc o).drew.setCells g i a).drew).setCells g j b).heap.size:=by
 have h1:w.heap.size<=(w.alloc o).heap.size:=(di w o).size;have h2:(w.alloc o).heap.size<=((w.alloc o).drew.setCells g i a).heap.size:=(dB a ((w.alloc o).drew) g i).size;have h3:((w.alloc o).drew.setCells g i a).heap.size<=((((w.alloc o).drew.setCells g i a).drew).setCells g j b).heap.size:=(dB b (((w.alloc o).drew.setCells g i a).drew) g j).size;omega
theorem jK (n:Nat):(Builtin.zeroCells (Value.int .i64 0).cells n).size=n:=by
 simp[Builtin.zeroCells,Value.cells]
theorem a7L {B:Nat}{w:ag}{v:ah}{L:List Int}{k:Int}{i vb:Nat}(ho:w.ownsRow B 3 1 v L.length (bD L))(hi:i<=L.length)(hb:L.length<=1000000)(hv:w.heap[vb]? =some (.cells #[aa k] 3))(hne:v.ownBlock≠some vb)(hB:B<=w.heap.size):
  ax 105 #[v,aa i,.slice (some ⟨vb,0,none⟩) 1 1] w fun e w'=>∃o c,e=.returned (.slice o (L.length+1) c)/\w'.ownsRow B 3 1 (.slice o (L.length+1) c) (L.length+1) (bD (dG L i k))/\w.grownBy w' v.ownBlock/\((Value.slice o (L.length+1) c).ownBlock=v.ownBlock\/∀g,(Value.slice o (L.length+1) c).ownBlock=some g->w.heap.size<=g):=by
 have hlen:(bD L).length=L.length:=qZ L;have hil:(bD (dG L i k)).length=L.length+1:=(qZ _).trans (xA L i k hi);have hvs:∀j u,[Value.int .i64 k][j]? =some u->w.cell? (ak vb (0+j))=some u:=fun j u hu=>by
  rw[Nat.zero_add];exact aF hv j u (by simpa using hu)
 have h1v:∀u∈[Value.int .i64 k],u.oneCell'=true:=fun u hu=>by simp at hu;rw[hu];rfl
 have h1c:∀u∈bD L,u.oneCell'=true:=fun u hu=>by
  obtain⟨x, -,rfl⟩:=List.mem_map.1 hu;rfl
 have fresh:∀(o:Option Addr) (c:Nat),(∀a,o=some a->∀j u,(bD L)[j]? =some u->w.cell? (a.add j)=some u)->(o=none->L.length=0)->L.length<=c->c<L.length+1->i=L.length->
   ax 105 #[.slice o L.length c,aa i,.slice (some ⟨vb,0,none⟩) 1 1] w fun e w'=>∃o' c',e=.returned (.slice o' (L.length+1) c')/\w'.ownsRow B 3 1 (.slice o' (L.length+1) c') (L.length+1) (bD (dG L i k))/\(∀r,w.grownBy w' r)/\∀g,(Value.slice o' (L.length+1) c').ownBlock=some g->w.heap.size<=g:=fun o c hc hz h3 h4 h5=>by
  subst h5;have H:=Any2.slices_Insert_int_end_grow Tryz.vD o L.length c vb 0 1 1 (bD L) [aa k] w (by decide) h3 (by omega) (by omega) hlen rfl hz hc hvs h1v;refine H.mono fun e w' ⟨he,hw⟩=>⟨_,_,he,?_,fun r=>?_,fun g hg=>by cases hg;exact Nat.le_refl _⟩
  ·rw[hw];have hcg:=grownCap_ge w (L.length+1) c (Tryz.nR.t 3);refine vN hB (cZ w.drew _ _) hil hcg (grownCap_le_maxLen _ _ _ _ (by rw[bq];omega)) ?_ fun j hj=>?_
   ·rw[Array.size_append,jK];simp[hlen];omega
   ·rw[Array.getElem?_append_left (by simp[hlen];omega),List.getElem?_toArray,rC L _ j k ai];by_cases h6:j<L.length
    ·rw[if_pos h6,List.getElem?_append_left (by omega)]
    ·rw[if_neg h6,if_pos (by omega),List.getElem?_append_right (by omega),show j-(bD L).length=0 from by omega];rfl
  ·rw[hw];exact⟨rfl,rfl,rfl,(di w _).size,fun x hx _=>(di w _).block x hx⟩
 obtain⟨h1,h2⟩:=ho;rcases h2 with⟨rfl,h2⟩|⟨g,cap,cur,rfl,h3,h4,h5,h6,h7,h8⟩
 ·have H:=fresh none 0 (fun a ha=>by cases ha) (fun _=>h2) (by omega) (by omega) (by omega);rw[h2] at H;rw[h2];exact H.mono fun e w' ⟨o',c',r1,r2,r3,r4⟩=>⟨o',c',r1,r2,r3 _,.inr r4⟩
 rw[Nat.mul_one] at h7 h8;have hgv:vb≠g:=fun e=>hne (by rw[e];rfl);have a3G:∀j,j<L.length->cur[j]? =(bD L)[j]? :=fun j hj=>by
  rw[<- h8,List.getElem?_take,if_pos hj,Array.getElem?_toList]
 have hcs:∀j u,(bD L)[j]? =some u->w.cell? (ak g (0+j))=some u:=fun j u hu=>by
  have hj:j<L.length:=by rw[<- hlen];exact(List.getElem?_eq_some_iff.1 hu).1
  rw[Nat.zero_add];exact aF h4 j u ((a3G j hj).trans hu)
 rw[bq] at h6;have hin:∀j,j<cap->(w.cell? (ak g (0+j))).isSome=true:=fun j hj=>by
  rw[Nat.zero_add,aF h4 j _ (Array.getElem?_eq_getElem (by omega))];rfl
 by_cases hroom:L.length+1<=cap
 ·by_cases a3H:i<L.length
  ·have H:=Any2.slices_Insert_int_shift Tryz.vD g 0 L.length cap i vb 0 1 1 (bD L) [aa k] w a3H (by decide) hroom (by omega) hgv hlen rfl hcs (fun j hj=>hin j (by omega)) (fun j _=>aR h4 _) hvs h1c h1v 3 3 1 cap (by unfold World.shape?;rw[hv];rfl) (by unfold World.shape?;rw[h4];simp[h7]) (by omega) (aR hv _) (aR hv _);refine H.mono fun e w' ⟨he,hw⟩=>⟨_,_,he,?_,?_,.inl rfl⟩
   ·rw[hw,Nat.zero_add,Nat.zero_add];refine vN h3 (setCells_at _ _ g i _ _ (setCells_at _ w.drew g (i+1) cur _ h4)) hil hroom (by rw[bq];omega) (by rw[j6,j6,h7]) fun j hj=>?_;rw[ni _ _ _ _ (by rw[j6];simp;omega),ni _ _ _ _ (by rw[List.length_drop];omega),rC L i j k hi];by_cases h9:j<i
    ·rw[if_pos h9,if_neg (by simp;omega),if_neg (by omega)];exact a3G j (by omega)
    ·rw[if_neg h9];by_cases h10:j=i
     ·subst h10;rw[if_pos rfl,if_pos (by simp),Nat.sub_self];rfl
     ·rw[if_neg h10,if_neg (by simp;omega),if_pos (by rw[List.length_drop];omega),List.getElem?_drop,show i+(j-(i+1))=j-1 from by omega]
   ·rw[hw];exact Ng (k:=1) ((dB _ w.drew g _).trans (dB _ _ g _))
  ·obtain rfl:i=L.length:=by omega
   have H:=Any2.slices_Insert_int_end_room Tryz.vD g 0 L.length cap vb 0 1 1 [aa k] w (by decide) hroom (by omega) rfl (fun j hj=>by rw[show 0+L.length+j=0+(L.length+j) from by omega];exact hin _ (by omega)) (fun j _=>aR h4 _) hvs h1v;refine H.mono fun e w' ⟨he,hw⟩=>⟨_,_,he,?_,?_,.inl rfl⟩
   ·rw[hw,Nat.zero_add];refine vN h3 (setCells_at _ w g L.length cur _ h4) hil hroom (by rw[bq];omega) (by rw[j6,h7]) fun j hj=>?_;rw[ni _ _ _ _ (by simp;omega),rC L _ j k ai];by_cases h9:j<L.length
    ·rw[if_pos h9,if_neg (by omega)];exact a3G j h9
    ·obtain rfl:j=L.length:=by omega
     rw[if_pos ⟨Nat.le_refl _,by simp⟩,if_neg (Nat.lt_irrefl _),if_pos rfl,Nat.sub_self];rfl
   ·rw[hw];exact dB _ w g _
 ·by_cases a3H:i<L.length
  ·have H:=Any2.slices_Insert_int_grow Tryz.vD g 0 L.length cap i vb 0 1 1 (bD L) [aa k] w a3H (by decide) h5 (by omega) (by omega) hlen rfl hcs hvs h1c h1v;have hcg:=grownCap_ge w (L.length+1) cap (Tryz.nR.t 3);refine H.mono fun e w' ⟨he,hw⟩=>⟨_,_,he,?_,?_,.inr fun g' hg'=>by cases hg';exact Nat.le_refl _⟩
   ·rw[hw];have hs0:((bD L).take i).toArray.size=i:=by simp[hlen];omega
    refine vN hB (setCells_at _ _ w.heap.size (i+1) _ _ (setCells_at _ _ w.heap.size i _ _ (cZ w _ _))) hil hcg (grownCap_le_maxLen _ _ _ _ (by rw[bq];omega)) ?_ fun j hj=>?_
    ·rw[j6,j6,Array.size_append,Array.size_append,jK,jK,hs0];omega
    ·rw[ni _ _ _ _ (by rw[j6,Array.size_append,Array.size_append,jK,jK,hs0,List.length_drop];omega),ni _ _ _ _ (by rw[Array.size_append,Array.size_append,jK,jK,hs0];simp;omega),rC L i j k hi];by_cases h9:j<i
     ·rw[if_pos h9,if_neg (by omega),if_neg (by simp;omega),Array.getElem?_append_left (by rw[Array.size_append,hs0];omega),Array.getElem?_append_left (by omega),List.getElem?_toArray,List.getElem?_take,if_pos h9]
     ·rw[if_neg h9];by_cases h10:j=i
      ·subst h10;rw[if_pos rfl,if_neg (by omega),if_pos (by simp),Nat.sub_self];rfl
      ·rw[if_neg h10,if_pos (by rw[List.length_drop];omega),List.getElem?_drop,show i+(j-(i+1))=j-1 from by omega]
   ·rw[hw];refine⟨?_,?_,?_,?_,fun x hx hne2=>?_⟩
    ·exact(dB _ _ _ _).os.trans (dB _ ((w.alloc _).drew) _ _).os
    ·exact(dB _ _ _ _).tape.trans (dB _ ((w.alloc _).drew) _ _).tape
    ·exact(dB _ _ _ _).output.trans (dB _ ((w.alloc _).drew) _ _).output
    ·exact Sn w _ _ _ _ _ _
    ·rw[og _ _ _ _ x (by omega)];refine Eq.trans (og _ _ _ _ x (by omega)) ((di w _).block x hx)
  ·obtain rfl:i=L.length:=by omega
   have H:=fresh (some ⟨g,0,none⟩) cap (fun a ha j u hu=>by
    cases ha;have hadd:(⟨g,0,none⟩:Addr).add j=⟨g,j,none⟩:=by unfold Addr.add;split<;>simp_all
    rw[hadd];have:=hcs j u hu;rw[Nat.zero_add] at this;exact this) (fun h=>by cases h) h5 (by omega) rfl
   exact H.mono fun e w' ⟨o',c',r1,r2,r3,r4⟩=>⟨o',c',r1,r2,r3 _,.inr r4⟩
end
section
open Go.RowKit
set_option maxRecDepth 20000
def Up (M:Dm):Int->Nat->Prop
 |i,0=>M i=none
 |i,d+1=>∃e,M i=some e/\Up M e.parent d
theorem qI {B:Nat}{tg:bf}{W:ag}{DB MB:Nat}{p:Int->Option Nat}{M:Dm}{nx c:Nat}(hd:aO B tg W DB MB p M nx c)(n:Int)(d:Nat)(hn:bA n)(hu:Up M n d)(hdl:d<=1000000):
  ax 103 #[ay DB,aa n] W fun r w'=>r=.returned (aa d)/\Below W.heap.size W w':=by
 have d0:=hd.d0;have ajC:(d:Int)<=1000000:=by omega
 have HD:=aj hd;go_enter func103,ntmps103;go_wp2_with(at_lookup;refine Jn _ rfl _ _ 83 rfl underlying3 underlying83 (aW _) rfl hd.map n rfl hn ?_)
 go_loopw [5,6] (fun y z wr=>∃(j r:Nat) (i:Int),j+r=d/\y=aa j/\z=.pointer ((p i).map fun b=>⟨b,0,none⟩)/\Up M i r/\Below W.heap.size W wr) (fun y _ _=>d-(intOf y).toNat)
 case atStart=>exact⟨0,d,n,by omega,rfl,rfl,hu,Below.refl _ _⟩
 case round=>
  obtain⟨j,r,i,hjr,rfl,rfl,hup,hb⟩:=hrel;have hdw:=HD.out.below hb;cases r with
  |zero=>
   have hpi:=HD.out.non i hup;rw[hpi];obtain rfl:j=d:=by omega
   go_wp2_with fail;go_ret;exact⟨rfl,hb⟩
  |succ r=>
   obtain⟨e,hm,a7M⟩:=hup;obtain⟨b,va,vk,hpi,he⟩:=hdw.els i e hm;have hwp:=(hdw.wf i e hm).1;rw[hpi];have x0:=hdw.d0;have x2:=he.c2;have g1:(Instr.lookup 83 (.map (some MB)) (aa e.parent) false).run prog wr.drew=.ok (.pointer ((p e.parent).map fun b=>⟨b,0,none⟩)) wr.drew:=by
    cases GY:p e.parent with
    |none=>exact eZ.a0i (w:=wr.drew) (hdw.map.same rfl) underlying3 underlying83 (aW _) hwp GY
    |some b'=>exact eZ.run_get (w:=wr.drew) (hdw.map.same rfl) underlying3 underlying83 (aW _) hwp GY
   have hj:(j:Int)<1000000:=by omega
   have HUP:=aj a7M;clear a7M hm he;go_wp2_with fail;go_region;go_wp2_with fail
   go_roundw
   case rel=>exact⟨j+1,r,e.parent,by omega,by go_num,rfl,HUP.out,Js 1 hb⟩
   case measure=>simp[intOf];omega
theorem a0m {B:Nat}{tg:bf}{W:ag}{DB MB:Nat}{p:Int->Option Nat}{M:Dm}{nx c:Nat}(hd:aO B tg W DB MB p M nx c)(par:Int)(a:Nat)(name:Bs)(q:dO)(hq:M par=some q)(ha:a<=q.kids.length)(hnm:fP name=true)(d:Nat)(hu:Up M par d)(hdl:d<10)(hc:c<100)(hnx:nx<1000000)(hkl:q.kids.length<=1000000)(hB:B<=W.heap.size):
  ax 57 #[ay DB,aa par,aa a,.string ⟨name.toArray⟩] W fun r w'=>r=.returned (.tuple #[aa nx,.nilIface])/\KT tg W w'/\∃gF p',(∀x,x<W.heap.size->gF x=tg x)/\aO B gF w' DB MB p' (bJ (bJ M nx ⟨name,[],par,[]⟩) par ⟨q.name,q.ats,q.parent,dG q.kids a nx⟩) (nx+1) (c+1):=by
 obtain⟨QB,qa,qk,hpq,hq1⟩:=hd.els par q hq;obtain⟨oq,kq,rfl⟩:=aH hq1.kids;have hwp:=hd.i64 hq;have d0:=hd.d0;have y3:=hq1.c3;have hnl:=vz hnm;have ha0:¬(a:Int)<0:=by omega
 have hak:¬(q.kids.length:Int)<(a:Int):=by omega
 have IN:=fun w=>gm ⟨name.toArray⟩ (by rw[dS];omega) w;have hin:fP (⟨name.toArray⟩:aD).data.toList=true:=by simpa using hnm
 rw[hin] at IN;have DD:=qI hd par d hwp hu (by omega);have hpn:par≠(nx:Int):=by have:=hd.dom par q hq;omega
 have HD:=aj hd;have HQ1:=aj hq1;go_enter func57,ntmps57;go_upto_region 12 with(first|(at_lookup;refine bu _ rfl _ _ 83 rfl underlying3 underlying83 (aW _) rfl hd.map par rfl hwp QB hpq ?_)|(go_at_call 102;refine(IN _).mono ?_;rintro r w0 ⟨rfl,rfl⟩)|(go_at_call 103;refine DD.mono ?_;rintro r w1 ⟨rfl,b1⟩;have CT:=xg (HD.out.below b1))|(go_at_call 104;refine CT.mono ?_;rintro r w2 ⟨rfl,rfl⟩));have hd2:=HD.out.below b1;have E0:=cZ w2 #[.string ⟨name.toArray⟩,.slice none 0 0,aa par,.slice none 0 0] 90;have bE:=di w2 (.cells #[.string ⟨name.toArray⟩,.slice none 0 0,aa par,.slice none 0 0] 90);have NE:Rx B tg (w2.alloc (.cells #[.string ⟨name.toArray⟩,.slice none 0 0,aa par,.slice none 0 0] 90)) w2.heap.size ⟨name,[],par,[]⟩ (.slice none 0 0) (.slice none 0 0):=⟨E0,Nat.le_trans hB b1.size,hd2.new ai,World.ownsRow_nil _ _ _ _,fun g hg=>absurd hg (by simp[Value.ownBlock]),World.ownsRow_nil _ _ _ _,fun g hg=>absurd hg (by simp[Value.ownBlock])⟩;have KE:=Jv B tg _ DB MB p M nx c w2.heap.size ⟨name,[],par,[]⟩ (.slice none 0 0) (.slice none 0 0) (hd2.below bE) NE ⟨hwp,by simp⟩ hnx;go_upto_region 13 with(go_at_call 43;refine KE.mono ?_;rintro r w3 ⟨rfl,k3,d3⟩);have hU:=aG b1 bE;have tgo:∀x t,tg x=some t->jR tg nx w2.heap.size (.slice none 0 0) (.slice none 0 0) x=some t:=fun x t ht=>AB ht (hd2.new ai) (fun g hg=>by cases hg) (fun g hg=>by cases hg);have tgn:∀x,x<w0.heap.size->jR tg nx w2.heap.size (.slice none 0 0) (.slice none 0 0) x=tg x:=fun x hx=>xe (by have:=b1.size;omega) (by simp[Value.ownBlock]) (by simp[Value.ownBlock]);have hq3:wu B (jR tg nx w2.heap.size (.slice none 0 0) (.slice none 0 0)) w3 par QB q qa (.slice oq q.kids.length kq):=HQ1.out.turn fun g t ht hk=>by
  have hne:g≠DB/\g≠MB:=⟨fun e1=>(by have h1:=HD.out.jr;rw[<- e1,ht] at h1;cases h1;rcases hk with hk|hk|hk<;>cases hk),fun e1=>(by have h1:=HD.out.jg;rw[<- e1,ht] at h1;cases h1;rcases hk with hk|hk|hk<;>cases hk)⟩;have hgl:=(HD.out.low g t ht).2;exact⟨tgo g t ht,(k3.block g (by have:=hU.size;omega) hne.1 hne.2).trans (hU.block g hgl)⟩
 obtain⟨T3,DZ⟩:∃T,jR tg nx w2.heap.size (.slice none 0 0) (.slice none 0 0)=T:=⟨_,rfl⟩;rw[DZ] at d3 tgo tgn hq3;have HT3:=aj tgn;have b4:=di w3 (.cells #[aa nx] 3);have H4:=cZ w3 #[aa nx] 3;have d4:=d3.below b4;have hq4:=hq3.turn (gF:=T3) (w':=w3.alloc (.cells #[aa nx] 3)) fun g t ht _=>⟨ht,b4.block g (d3.low g t ht).2⟩;have z3:=hq3.c3;have IE:=a7L (k:=nx) (i:=a) hq4.kids ha hkl H4 (fun e1=>by have h1:=hq3.gD _ e1;rw[d3.new ai] at h1;cases h1) (by have h1:=hU.size;have h2:=k3.size;have h3:=b4.size;omega);have neQ:some QB≠(Value.slice oq q.kids.length kq).ownBlock:=fun e1=>by have h1:=hq3.gD QB e1.symm;rw[hq3.tag] at h1;cases h1
 have lQ:=aM hq4.cells;have cQ:=hq4.cells;have HF:=aj k3;clear KE NE E0 hd2 DZ k3 tgo tgn;go_wp2_with(go_at_call 105;refine IE.mono ?_;rintro r w5 ⟨o5,k5,rfl,GZ,gr5,lc5⟩;have e5:=(gr5.block QB lQ neQ).trans cQ;have c5:=aF e5 3 _ rfl;have f5:=aR e5);have hL:(dG q.kids a (nx:Int)).length=q.kids.length+1:=xA _ _ _ ha;rw[<- hL] at GZ;have hMp:bJ M nx ⟨name,[],par,[]⟩ par=some q:=by unfold bJ;rw[if_neg hpn];exact hq
 obtain⟨r1,r2,r3⟩:=d4.kids hMp (by simp only[if_neg hpn];exact hpq) hq4 (fun k hk=>by
  unfold dG at hk;rcases List.mem_append.1 hk with hk|hk
  ·exact(HD.out.wf par q hq).2 k (List.mem_of_mem_take hk)
  ·rcases List.mem_cons.1 hk with rfl|hk
   ·exact WalkArith.wf_i64 (by omega)
   ·exact(HD.out.wf par q hq).2 k (List.mem_of_mem_drop hk)) GZ gr5 (by rw[hL];exact lc5)
 rw[hL] at r1 r2 r3
 go_ret2
 refine⟨rfl,?_,_,_,fun x hx=>?_,r1⟩
 ·have hk:=HF.out;have ktu:KT tg w0 w3:=KT.trans (KT.of_below hU) (gF:=tg) (KT.a6X (HD.out.below hU) hk) (fun _ _=>rfl);exact ktu.trans (gF:=T3) (KT.trans (KT.of_below b4) r3 (fun _ _=>rfl)) HT3.out
 ·have h1:=hU.size;have h2:=HF.out.size;have h3:=b4.size;rw[r2 x (by omega)];exact HT3.out x hx
end
section
open Go.RowKit
theorem uo {B:Nat}{tg:bf}{W:ag}{DB MB:Nat}{p:Int->Option Nat}{M:Dm}{nx c:Nat}(hd:aO B tg W DB MB p M nx c)(n par:Int)(e q:dO)(hn:M n=some e)(hq:M par=some q)(hl:q.kids.length<=1000000):
  ax 109 #[ay DB,aa par,aa n] W fun r w'=>r=.returned (aa (if e.parent=par then(q.kids.length:Int)-1 else q.kids.length))/\w'=W:=by
 have hwn:=hd.i64 hn;have hwp:=hd.i64 hq;have d0:=hd.d0;obtain⟨EB,va,vk,hpn,he⟩:=hd.els n e hn;obtain⟨QB,qa,qk,hpq,heq⟩:=hd.els par q hq;obtain⟨oq,kq,rfl⟩:=aH heq.kids;have x2:=he.c2;have y3:=heq.c3;by_cases hp:e.parent=par
 ·have hp':(e.parent==par)=true:=by simp[hp]
  have hw:IntKind.i64.wrap ((q.kids.length:Int)-1)=(q.kids.length:Int)-1:=IntWalk.i64_in _ (by omega);rw[if_pos hp];go_enter func109,ntmps109;go_wp2_with(at_lookup;first|(refine zg _ rfl _ _ 83 rfl underlying3 underlying83 (aW _) rfl hd.map par rfl hwp QB hpq ?_)|(refine zg _ rfl _ _ 83 rfl underlying3 underlying83 (aW _) rfl hd.map n rfl hwn EB hpn ?_));go_ret;exact⟨rfl,rfl⟩
 ·have hp':(e.parent==par)=false:=by simp[hp]
  rw[if_neg hp];go_enter func109,ntmps109;go_wp2_with(at_lookup;first|(refine zg _ rfl _ _ 83 rfl underlying3 underlying83 (aW _) rfl hd.map par rfl hwp QB hpq ?_)|(refine zg _ rfl _ _ 83 rfl underlying3 underlying83 (aW _) rfl hd.map n rfl hwn EB hpn ?_));go_ret;exact⟨rfl,rfl⟩
def jB (l:List (Int×Int)):Int:=l.foldl (fun m x=>max m x.2) 0
theorem Nh (l:List (Int×Int))(x:Int×Int):jB (l++[x])=max (jB l) x.2:=by
 unfold jB;rw[List.foldl_append];rfl
def a3I (W:ag)(done:List (Int×Int))(Wc:ag):Prop:=Below W.heap.size W Wc/\Wc.heap[W.heap.size]? =some (.cells #[aa (jB done)] 3)
theorem deepest (W:ag)(done:List (Int×Int))(Wc:ag)(i d:Int)(h:a3I W done Wc):
  ax 158 (#[aa i,aa d]++#[ay W.heap.size]) Wc fun e w'=>e=.returned (.tuple #[])/\a3I W (done++[(i,d)]) w':=by
 obtain⟨hb,hc⟩:=h;have c0:=aF hc 0 _ rfl;have f0:=aR hc 0;have HB:=aj hb;clear hb;obtain⟨PL,ZY⟩:∃PL,W.heap.size=PL:=⟨_,rfl⟩;rw[ZY] at c0 f0 hc⊢;obtain⟨m,hm⟩:∃m,jB done=m:=⟨_,rfl⟩;rw[hm] at c0 hc;show ax 158 #[aa i,aa d,ay PL] Wc _;go_enter func158,ntmps158;go_wp2_with fail;refine bodyPost_end (results_none rfl _ _ _) rfl ⟨rfl,?_,?_⟩
 ·have h7:=HB.out;rw[ZY] at h7⊢;exact h7.setCell ai _
 ·rw[ZY,heap_setCell_same Wc PL 0 _ _ _ hc,Nh,hm];simp
theorem BD {B:Nat}{tg:bf}{W:ag}{DB MB:Nat}{p:Int->Option Nat}{M:Dm}{nx c:Nat}(hd:aO B tg W DB MB p M nx c)(f:Nat)(n:Int)(hf:f<=900000)(hp:Dp M f n)(hn:bA n)(hl:(pre M f n 1).length<=1000000):
  ax 110 #[ay DB,aa n] W fun e w'=>e=.returned (aa (jB (pre M f n 1)))/\Below W.heap.size W w':=by
 have HW:=xm hd _ (oJ _ _ func158 (by kernel_rfl) (by kernel_rfl)) #[ay W.heap.size] (a3I W) (fun done Wc h=>⟨fun b t ht=>h.1.block b (hd.low b t ht).2,h.1.size⟩) (fun done Wc i d h _=>deepest W done Wc i d h) f n 1 [] (W.alloc (.cells #[aa 0] 3)) hp hn (by decide) (by omega) (by rw[List.length_nil];omega) ⟨di W _,cZ W _ _⟩;rw[List.nil_append] at HW;go_enter func110,ntmps110;go_wp2_with(go_at_call 155;refine HW.mono ?_;rintro e w1 ⟨rfl,h1⟩;obtain⟨hb1,hc1⟩:=h1;have c1:=aF hc1 0 _ rfl);go_ret;exact⟨rfl,hb1⟩
theorem Ni {B:Nat}(W:ag)(v:ah)(L:List Int)(x:Int)(h:W.ownsRow B 3 1 v L.length (bD L))(hl:L.length<=1000000):
  ax 157 #[v,aa x] W fun e w'=>w'=W/\∃i:Int,e=.returned (aa i)/\(0<=i↔x∈L):=by
 have hc:∀k y,L[k]? =some y->∃g,v.ownBlock=some g/\W.cell? (ak g k)=some (aa y):=fun k y hk=>bO h k _ (kI hk);rcases h.2 with⟨rfl,hn⟩|⟨g,cap,cur,rfl,_,_,h1,h2,_,_⟩
 ·have hz:L=[]:=List.length_eq_zero_iff.1 hn;subst hz;go_enter func157,ntmps157;go_wp2_with fail
  go_loop [5,8] (fun _ i=>i=aa 0) (fun _ _=>0)
  case atStart=>rfl
  case round=>
   subst hrel;go_wp2_with fail;go_ret;exact⟨rfl, -1,rfl,by simp⟩
 ·have HC:Hid (∀(k:Nat) (y:Int),L[k]? =some y->W.cell? (ak g k)=some (aa y)):=(fun k y hk=>by
   obtain⟨g',hg,hk'⟩:=hc k y hk;cases hg;exact hk':∀(k:Nat) (y:Int),L[k]? =some y->W.cell? (ak g k)=some (aa y))
  clear hc h;go_enter func157,ntmps157;go_wp2_with fail
  go_loop [5,8] (fun _ i=>∃k:Nat,k<=L.length/\i=aa k/\Hid (∀j,j<k->L[j]?≠some x)) (fun _ i=>match i with| .int _ m=>L.length-m.toNat|_=>0)
  case atStart=>exact⟨0,Nat.zero_le _,rfl,(fun j hj=>absurd hj (Nat.not_lt_zero _):∀j,j<0->L[j]?≠some x)⟩
  case round=>
   obtain⟨k,hk,rfl,hne⟩:=hrel;by_cases hkl:k<L.length
   ·obtain⟨y,hy⟩:∃y,L[k]? =some y:=⟨_,List.getElem?_eq_getElem hkl⟩;have hcell:=HC.out k y hy;have hkl':(k:Int)<L.length:=by omega
    by_cases hxy:x=y
    ·subst hxy;go_wp2_with fail;go_ret;exact⟨rfl,k,rfl,⟨fun _=>List.mem_of_getElem? hy,fun _=>by omega⟩⟩
    ·have hxy':(x==y)=false:=by simp[hxy]
     go_wp2_with fail;refine⟨⟨k+1,by omega,rfl,(fun j hj=>?_:∀j,j<k+1->L[j]?≠some x)⟩,?_⟩
     ·by_cases e:j=k
      ·subst e;rw[hy];exact fun e=>hxy (by cases e;rfl)
      ·exact hne.out j (by omega)
     ·show L.length-((k:Int)+1).toNat<L.length-(k:Int).toNat;omega
   ·have hkl':¬(k:Int)<L.length:=by omega
    go_wp2_with fail;go_ret;refine⟨rfl, -1,rfl,⟨fun h=>by omega,fun hm=>?_⟩⟩;obtain⟨j,hj⟩:=List.getElem?_of_mem hm;exact absurd hj (hne.out j (by have:=(List.getElem?_eq_some_iff.1 hj).1;omega))
theorem iO {B:Nat}(W:ag)(v:ah)(L:List Int)(x:Int)(h:W.ownsRow B 3 1 v L.length (bD L))(hl:L.length<=1000000):
  ax 108 #[v,aa x] W fun e w'=>w'=W/\e=.returned (.bool (decide (x∈L))):=by
 have HI:=Ni W v L x h hl;go_enter func108,ntmps108;go_wp2_with(go_at_call 157;refine HI.mono ?_;rintro e w1 ⟨rfl,i,rfl,hi⟩);go_ret;exact⟨rfl,rfl⟩
end
section
open Go.RowKit
set_option maxRecDepth 20000
theorem aO.par {B:Nat}{tg:bf}{w:ag}{DB MB:Nat}{p:Int->Option Nat}{M:Dm}{nx c EB:Nat}{i:Int}{e:dO}{va vk:ah}(h:aO B tg w DB MB p M nx c)(hi:M i=some e)(hp:p i=some EB)(he:wu B tg w i EB e va vk)(par:Int)(hw:bA par):
  aO B tg (w.setCell ⟨EB,2,none⟩ (aa par)) DB MB p (bJ M i ⟨e.name,e.ats,par,e.kids⟩) nx c/\KT tg w (w.setCell ⟨EB,2,none⟩ (aa par)):=by
 have hset:=(Below.refl EB w).setCell (p:=⟨EB,2,none⟩) ai (aa par);have blk:∀x,x≠EB->(w.setCell ⟨EB,2,none⟩ (aa par)).heap[x]? =w.heap[x]? :=fun x h1=>Below.heap_setCell _ _ _ x h1;have nea:∀g,va.ownBlock=some g->g≠EB:=fun g hg e1=>by have h1:=he.jH g hg;rw[e1,he.tag] at h1;cases h1
 have nek:∀g,vk.ownBlock=some g->g≠EB:=fun g hg e1=>by have h1:=he.gD g hg;rw[e1,he.tag] at h1;cases h1
 refine⟨h.put hi hp (va:=va) (vk:=vk) ⟨?_,he.tag,bT he.ats fun g hg=>blk g (nea g hg),he.jH,bT he.kids fun g hg=>blk g (nek g hg),he.gD⟩ hset.size ⟨hw,(h.wf i e hi).2⟩ (fun _ _=>rfl) ?_ ?_ ?_,⟨hset.os,hset.tape,hset.output,hset.size,fun x hx hn=>?_⟩⟩
 ·rw[heap_setCell_same w EB 2 _ _ _ he.cells];rfl
 ·intro x t ht;have:=h.low x t ht;have:=hset.size;omega
 ·intro x hx;exact .inl (h.new hx)
 ·intro x t ht h1 h2 h3;exact blk x (fun e1=>by rw[e1,he.tag] at ht;cases ht;exact h1 rfl)
 ·exact blk x (fun e1=>by rw[e1,he.tag] at hn;cases hn)
def gK (M:Dm)(n:Int)(e o:dO):Dm:=bJ M e.parent ⟨o.name,o.ats,o.parent,um o.kids n⟩
def iE (M:Dm)(n par:Int)(a:Nat)(e o q:dO):Dm:=bJ (bJ (gK M n e o) n ⟨e.name,e.ats,par,e.kids⟩) par ⟨q.name,q.ats,q.parent,dG q.kids a n⟩
theorem JS {B:Nat}{tg:bf}{W:ag}{DB MB:Nat}{p:Int->Option Nat}{M:Dm}{nx c:Nat}(hd:aO B tg W DB MB p M nx c)(n par:Int)(a:Nat)(e o q0 q:dO)(hn:M n=some e)(hn0:n≠0)(ho:M e.parent=some o)(hok:o.kids≠[])(hen:e.parent≠n)(hq0:M par=some q0)(hq:gK M n e o par=some q)(hpn:par≠n)
  (f:Nat) (hf:f<=900000) (hp:Dp M f n) (hl:(pre M f n 1).length<=1000000) (hnot:par ∉ dw M f n) (hql:q0.kids.length<=1000000) (hal:(a:Int)<=if e.parent=par then(q0.kids.length:Int)-1 else q0.kids.length) (haq:a<=q.kids.length) (hqb:q.kids.length<=1000000)
  (d:Nat) (hu:Up M par d) (hdd:(d:Int)+jB (pre M f n 1)<=10) (hdp:0<=jB (pre M f n 1)) (hB:B<=W.heap.size):
  ax 59 #[ay DB,aa n,aa par,aa a] W fun r w'=>r=.returned .nilIface/\KT tg W w'/\∃gF,(∀x,x<W.heap.size->gF x=tg x)/\aO B gF w' DB MB p (iE M n par a e o q) nx c:=by
 obtain⟨EB,va,vk,hpe,he⟩:=hd.els n e hn;obtain⟨QB,qa,qk,hpq,heq⟩:=hd.els par q0 hq0;have hwn:=hd.i64 hn;have hwp:=hd.i64 hq0;have d0:=hd.d0;have Sm:(n==0)=false:=by rw[beq_eq_false_iff_ne];exact hn0
 have hll:(dw M f n).length<=1000000:=by unfold dw;rw[List.length_map];exact hl
 have FD:=l8 hd f n hf hp hwn hll;have afZ:decide (par∈dw M f n)=false:=decide_eq_false hnot;have ha0:¬(a:Int)<0:=by omega
 have HD:=aj hd;obtain⟨ot,hot⟩:∃ot:Int,(if e.parent=par then(q0.kids.length:Int)-1 else q0.kids.length)=ot:=⟨_,rfl⟩;rw[hot] at hal;obtain⟨mo,hmo⟩:∃mo:Int,jB (pre M f n 1)=mo:=⟨_,rfl⟩;rw[hmo] at hdd hdp;have abM:IntKind.i64.wrap ((d:Int)+mo)=(d:Int)+mo:=IntWalk.i64_in _ (by omega);have HOT:=aj hot;have HMO:=aj hmo;clear hot hmo;go_enter func59,ntmps59;go_upto_region 7 with(at_lookup;first|refine bu _ rfl _ _ 83 rfl underlying3 underlying83 (aW _) rfl hd.map n rfl hwn EB hpe ?_|refine bu _ rfl _ _ 83 rfl underlying3 underlying83 (aW _) rfl hd.map par rfl hwp QB hpq ?_);go_upto_region 9 with(first|(go_at_call 107;refine FD.mono ?_;rintro r w1 ⟨o1,k1,rfl,b1,Aa⟩;have CI:=iO w1 _ (dw M f n) par Aa hll)|(go_at_call 108;refine CI.mono ?_;rintro r w2 ⟨rfl,rfl⟩));have hd1:=HD.out.below b1;have OD:=uo hd1 n par e q0 hn hq0 hql;rw[HOT.out] at OD;go_upto_region 11 with(go_at_call 109;refine OD.mono ?_;rintro r w3 ⟨rfl,rfl⟩);have DD:=qI hd1 par d hwp hu (by omega);go_upto_region 13 with(first|(go_at_call 103;refine DD.mono ?_;rintro r w4 ⟨rfl,b4⟩;have LD:=BD (HD.out.below (aG b1 b4)) f n hf hp hwn hl;rw[HMO.out] at LD)|(go_at_call 110;refine LD.mono ?_;rintro r w5 ⟨rfl,b5⟩));have hU:=aG (aG b1 b4) b5;have TO:=yJ (HD.out.below hU) n e o hn ho hok;go_upto_region 14 with(go_at_call 106;refine TO.mono ?_;rintro r w6 ⟨rfl,k6,T6,t6,d6⟩);have hM1:gK M n e o n=some e:=by unfold gK bJ;rw[if_neg (fun h=>hen h.symm)];exact hn
 have d6:aO B T6 w6 DB MB p (gK M n e o) nx c:=d6;obtain⟨EB',va6,vk6,a7O,he6⟩:=d6.els n e hM1;have hEE:EB'=EB:=by rw[hpe] at a7O;cases a7O;rfl
 subst hEE;obtain⟨d7,k7⟩:=d6.par hM1 hpe he6 par hwp;have f6:=aR he6.cells 2;have x6:=he6.c2;have hMq:bJ (gK M n e o) n ⟨e.name,e.ats,par,e.kids⟩ par=some q:=by unfold bJ;rw[if_neg hpn];exact hq
 have s7:w6.heap.size<=(w6.setCell ⟨EB',2,none⟩ (aa par)).heap.size:=k7.size;obtain⟨U,hU7⟩:∃U,w6.setCell ⟨EB',2,none⟩ (aa par)=U:=⟨_,rfl⟩;go_upto_region 15 with fail;rw[hU7] at d7 k7 s7;obtain⟨QB',qa7,qk7,a7P,hq7⟩:=d7.els par q hMq;have hQQ:QB'=QB:=by rw[hpq] at a7P;cases a7P;rfl
 subst hQQ;obtain⟨oq,kq,rfl⟩:=aH hq7.kids;have b8:=di U (.cells #[aa n] 3);have H8:=cZ U #[aa n] 3;have d8:=d7.below b8;have hq8:=hq7.turn (gF:=T6) (w':=U.alloc (.cells #[aa n] 3)) fun g t ht _=>⟨ht,b8.block g (d7.low g t ht).2⟩;have y8:=hq8.c3;have z7:=hq7.c3;have IE:=a7L (k:=n) (i:=a) hq8.kids haq hqb H8 (fun e1=>by have h1:=hq7.gD _ e1;rw[d7.new ai] at h1;cases h1) (by have h1:=hU.size;have h2:=k6.size;have h3:=b8.size;omega);have neQ:some QB'≠(Value.slice oq q.kids.length kq).ownBlock:=fun e1=>by have h1:=hq7.gD QB' e1.symm;rw[hq7.tag] at h1;cases h1
 have lQ:=aM hq8.cells;have cQ:=hq8.cells;have HK6:=aj k6;have HK7:=aj k7;have HT6:=aj t6;clear hU7 k6 k7 t6 d6 TO;go_wp2_with(go_at_call 105;refine IE.mono ?_;rintro r w9 ⟨o9,k9,rfl,ow9,gr9,lc9⟩;have e9:=(gr9.block QB' lQ neQ).trans cQ;have c9:=aF e9 3 _ rfl;have f9:=aR e9);have hL:(dG q.kids a n).length=q.kids.length+1:=xA _ _ _ haq;rw[<- hL] at ow9;obtain⟨r1,r2,r3⟩:=d8.kids hMq hpq hq8 (fun k hk=>by
  unfold dG at hk;rcases List.mem_append.1 hk with hk|hk
  ·exact(d7.wf par q hMq).2 k (List.mem_of_mem_take hk)
  ·rcases List.mem_cons.1 hk with rfl|hk
   ·exact hwn
   ·exact(d7.wf par q hMq).2 k (List.mem_of_mem_drop hk)) ow9 gr9 (by rw[hL];exact lc9)
 rw[hL] at r1 r2 r3;go_ret;have h6:=HK6.out;have h7:=HK7.out;refine⟨rfl,?_,_,fun x hx=>?_,r1⟩
 ·have ku:KT tg W w6:=KT.trans (KT.of_below hU) h6 (fun _ _=>rfl);have kv:KT tg W U:=ku.trans (gF:=T6) h7 (fun x hx=>HT6.out x (by have:=hU.size;omega));exact kv.trans (gF:=T6) (KT.trans (KT.of_below b8) r3 (fun _ _=>rfl)) (fun x hx=>HT6.out x (by have:=hU.size;omega))
 ·have h1:=hU.size;have h2:=h6.size;have h3:=h7.size;have h4:=b8.size;rw[r2 x (by omega)];exact HT6.out x (by omega)
theorem a0o {E:Nat->Addr}{B:Nat}{tg:bf}{W:ag}{DB MB:Nat}{p:Int->Option Nat}{M:Dm}{nx c:Nat}(hE:DE E W)(hd:aO B tg W DB MB p M nx c)(n par a:Int)(hwn:bA n)(hwp:bA par)(hn:M n=none)(hq:M par=none):
  ax 59 #[ay DB,aa n,aa par,aa a] W fun r w'=>r=.returned (eV (E 5))/\Below W.heap.size W w':=by
 have d0:=hd.d0;have ck:=hE.c5;unfold eV;have hpe:=hd.non n hn;have hpq:=hd.non par hq;go_enter func59,ntmps59;go_wp2_with(at_lookup;first|refine iB _ rfl _ _ 83 rfl underlying3 underlying83 (aW _) rfl hd.map n rfl hwn hpe ?_|refine iB _ rfl _ _ 83 rfl underlying3 underlying83 (aW _) rfl hd.map par rfl hwp hpq ?_);go_ret;exact⟨rfl,Below.refl _ _⟩
theorem WZ {E:Nat->Addr}{B:Nat}{tg:bf}{W:ag}{DB MB:Nat}{p:Int->Option Nat}{M:Dm}{nx c:Nat}(hE:DE E W)(hd:aO B tg W DB MB p M nx c)(n par a:Int)(hwn:bA n)(hwp:bA par)(q:dO)(hn:M n=none)(hq:M par=some q):
  ax 59 #[ay DB,aa n,aa par,aa a] W fun r w'=>r=.returned (eV (E 5))/\Below W.heap.size W w':=by
 have d0:=hd.d0;have ck:=hE.c5;unfold eV;have hpe:=hd.non n hn;obtain⟨QB,qa,qk,hpq,heq⟩:=hd.els par q hq;go_enter func59,ntmps59;go_wp2_with(at_lookup;first|refine iB _ rfl _ _ 83 rfl underlying3 underlying83 (aW _) rfl hd.map n rfl hwn hpe ?_|refine bu _ rfl _ _ 83 rfl underlying3 underlying83 (aW _) rfl hd.map par rfl hwp QB hpq ?_);go_ret;exact⟨rfl,Below.refl _ _⟩
theorem X3 {E:Nat->Addr}{B:Nat}{tg:bf}{W:ag}{DB MB:Nat}{p:Int->Option Nat}{M:Dm}{nx c:Nat}(hE:DE E W)(hd:aO B tg W DB MB p M nx c)(n par a:Int)(hwn:bA n)(hwp:bA par)(e:dO)(hn:M n=some e)(hq:M par=none):
  ax 59 #[ay DB,aa n,aa par,aa a] W fun r w'=>r=.returned (eV (E 5))/\Below W.heap.size W w':=by
 have d0:=hd.d0;have ck:=hE.c5;unfold eV;obtain⟨EB,va,vk,hpe,he⟩:=hd.els n e hn;have hpq:=hd.non par hq;go_enter func59,ntmps59;go_wp2_with(at_lookup;first|refine bu _ rfl _ _ 83 rfl underlying3 underlying83 (aW _) rfl hd.map n rfl hwn EB hpe ?_|refine iB _ rfl _ _ 83 rfl underlying3 underlying83 (aW _) rfl hd.map par rfl hwp hpq ?_);go_ret;exact⟨rfl,Below.refl _ _⟩
theorem Sq {E:Nat->Addr}{B:Nat}{tg:bf}{W:ag}{DB MB:Nat}{p:Int->Option Nat}{M:Dm}{nx c:Nat}(hE:DE E W)(hd:aO B tg W DB MB p M nx c)(n par a:Int)(hwn:bA n)(hwp:bA par)(e q:dO)(hn:M n=some e)(hq:M par=some q)(hn0:n=0):
  ax 59 #[ay DB,aa n,aa par,aa a] W fun r w'=>r=.returned (eV (E 3))/\Below W.heap.size W w':=by
 have d0:=hd.d0;have ck:=hE.c3;unfold eV;obtain⟨EB,va,vk,hpe,he⟩:=hd.els n e hn;obtain⟨QB,qa,qk,hpq,heq⟩:=hd.els par q hq;have Sm:(n==0)=true:=by rw[beq_iff_eq];exact hn0
 clear hn0;go_enter func59,ntmps59;go_wp2_with(at_lookup;first|refine bu _ rfl _ _ 83 rfl underlying3 underlying83 (aW _) rfl hd.map n rfl hwn EB hpe ?_|refine bu _ rfl _ _ 83 rfl underlying3 underlying83 (aW _) rfl hd.map par rfl hwp QB hpq ?_);go_ret;exact⟨rfl,Below.refl _ _⟩
theorem Nj {E:Nat->Addr}{B:Nat}{tg:bf}{W:ag}{DB MB:Nat}{p:Int->Option Nat}{M:Dm}{nx c:Nat}(hE:DE E W)(hd:aO B tg W DB MB p M nx c)(n par a:Int)(e q:dO)(hn:M n=some e)(hq:M par=some q)(hn0:n≠0)(hwn:bA n)(hwp:bA par)(f:Nat)(hf:f<=900000)(hp:Dp M f n)(hl:(pre M f n 1).length<=1000000)(hin:par∈dw M f n):
  ax 59 #[ay DB,aa n,aa par,aa a] W fun r w'=>r=.returned (eV (E 9))/\Below W.heap.size W w':=by
 have d0:=hd.d0;unfold eV;obtain⟨EB,va,vk,hpe,he⟩:=hd.els n e hn;obtain⟨QB,qa,qk,hpq,heq⟩:=hd.els par q hq;have Sm:(n==0)=false:=by rw[beq_eq_false_iff_ne];exact hn0
 have hll:(dw M f n).length<=1000000:=by unfold dw;rw[List.length_map];exact hl
 have FD:=l8 hd f n hf hp hwn hll;have HE:=aj hE;go_enter func59,ntmps59;go_upto_region 7 with(at_lookup;first|refine bu _ rfl _ _ 83 rfl underlying3 underlying83 (aW _) rfl hd.map n rfl hwn EB hpe ?_|refine bu _ rfl _ _ 83 rfl underlying3 underlying83 (aW _) rfl hd.map par rfl hwp QB hpq ?_);go_wp2_with(first|(go_at_call 107;refine FD.mono ?_;rintro r w1 ⟨o1,k1,rfl,b1,Aa⟩;have CI:=iO w1 _ (dw M f n) par Aa hll;have ck1:=(HE.out.below b1 ai).c9)|(go_at_call 108;refine CI.mono ?_;rintro r w2 ⟨rfl,rfl⟩));go_ret;exact⟨rfl,b1⟩
theorem X4 {E:Nat->Addr}{B:Nat}{tg:bf}{W:ag}{DB MB:Nat}{p:Int->Option Nat}{M:Dm}{nx c:Nat}(hE:DE E W)(hd:aO B tg W DB MB p M nx c)(n par a:Int)(e q:dO)(hn:M n=some e)(hq:M par=some q)(hn0:n≠0)(hwn:bA n)(hwp:bA par)(f:Nat)(hf:f<=900000)(hp:Dp M f n)(hl:(pre M f n 1).length<=1000000)(hnot:par ∉ dw M f n)(ha:a<0):
  ax 59 #[ay DB,aa n,aa par,aa a] W fun r w'=>r=.returned (eV (E 2))/\Below W.heap.size W w':=by
 have d0:=hd.d0;unfold eV;obtain⟨EB,va,vk,hpe,he⟩:=hd.els n e hn;obtain⟨QB,qa,qk,hpq,heq⟩:=hd.els par q hq;have Sm:(n==0)=false:=by rw[beq_eq_false_iff_ne];exact hn0
 have hll:(dw M f n).length<=1000000:=by unfold dw;rw[List.length_map];exact hl
 have FD:=l8 hd f n hf hp hwn hll;have HE:=aj hE;go_enter func59,ntmps59;go_upto_region 7 with(at_lookup;first|refine bu _ rfl _ _ 83 rfl underlying3 underlying83 (aW _) rfl hd.map n rfl hwn EB hpe ?_|refine bu _ rfl _ _ 83 rfl underlying3 underlying83 (aW _) rfl hd.map par rfl hwp QB hpq ?_);go_wp2_with(first|(go_at_call 107;refine FD.mono ?_;rintro r w1 ⟨o1,k1,rfl,b1,Aa⟩;have CI:=iO w1 _ (dw M f n) par Aa hll;have ck1:=(HE.out.below b1 ai).c2)|(go_at_call 108;refine CI.mono ?_;rintro r w2 ⟨rfl,rfl⟩));go_ret;exact⟨rfl,b1⟩
theorem Nk {E:Nat->Addr}{B:Nat}{tg:bf}{W:ag}{DB MB:Nat}{p:Int->Option Nat}{M:Dm}{nx c:Nat}(hE:DE E W)(hd:aO B tg W DB MB p M nx c)(n par a:Int)(e q:dO)(hn:M n=some e)(hq:M par=some q)(hn0:n≠0)(hwn:bA n)(hwp:bA par)(f:Nat)(hf:f<=900000)(hp:Dp M f n)(hl:(pre M f n 1).length<=1000000)(hnot:par ∉ dw M f n)(ha:¬a<0)(hql:q.kids.length<=1000000)(hal:(if e.parent=par then(q.kids.length:Int)-1 else q.kids.length)<a):
  ax 59 #[ay DB,aa n,aa par,aa a] W fun r w'=>r=.returned (eV (E 2))/\Below W.heap.size W w':=by
 have d0:=hd.d0;unfold eV;obtain⟨EB,va,vk,hpe,he⟩:=hd.els n e hn;obtain⟨QB,qa,qk,hpq,heq⟩:=hd.els par q hq;have Sm:(n==0)=false:=by rw[beq_eq_false_iff_ne];exact hn0
 have hll:(dw M f n).length<=1000000:=by unfold dw;rw[List.length_map];exact hl
 have FD:=l8 hd f n hf hp hwn hll;have HD:=aj hd;have HE:=aj hE;obtain⟨ot,hot⟩:∃ot:Int,(if e.parent=par then(q.kids.length:Int)-1 else q.kids.length)=ot:=⟨_,rfl⟩;rw[hot] at hal;have HOT:=aj hot;clear hot;go_enter func59,ntmps59;go_upto_region 7 with(at_lookup;first|refine bu _ rfl _ _ 83 rfl underlying3 underlying83 (aW _) rfl hd.map n rfl hwn EB hpe ?_|refine bu _ rfl _ _ 83 rfl underlying3 underlying83 (aW _) rfl hd.map par rfl hwp QB hpq ?_);go_upto_region 9 with(first|(go_at_call 107;refine FD.mono ?_;rintro r w1 ⟨o1,k1,rfl,b1,Aa⟩;have CI:=iO w1 _ (dw M f n) par Aa hll;have ck1:=(HE.out.below b1 ai).c2)|(go_at_call 108;refine CI.mono ?_;rintro r w2 ⟨rfl,rfl⟩));have OD:=uo (HD.out.below b1) n par e q hn hq hql;rw[HOT.out] at OD;go_wp2_with(go_at_call 109;refine OD.mono ?_;rintro r w3 ⟨rfl,rfl⟩);go_ret;exact⟨rfl,b1⟩
theorem Sr {E:Nat->Addr}{B:Nat}{tg:bf}{W:ag}{DB MB:Nat}{p:Int->Option Nat}{M:Dm}{nx c:Nat}(hE:DE E W)(hd:aO B tg W DB MB p M nx c)(n par a:Int)(e q:dO)(hn:M n=some e)(hq:M par=some q)(hn0:n≠0)(hwn:bA n)(hwp:bA par)(f:Nat)(hf:f<=900000)(hp:Dp M f n)(hl:(pre M f n 1).length<=1000000)(hnot:par ∉ dw M f n)(ha:¬a<0)(hql:q.kids.length<=1000000)(hal:¬(if e.parent=par then(q.kids.length:Int)-1 else q.kids.length)<a)(d:Nat)(hu:Up M par d)(a7Q:d<=10)(hdd:10<(d:Int)+jB (pre M f n 1))(hmb:jB (pre M f n 1)<=1000000):
  ax 59 #[ay DB,aa n,aa par,aa a] W fun r w'=>r=.returned (eV (E 8))/\Below W.heap.size W w':=by
 have d0:=hd.d0;unfold eV;obtain⟨EB,va,vk,hpe,he⟩:=hd.els n e hn;obtain⟨QB,qa,qk,hpq,heq⟩:=hd.els par q hq;have Sm:(n==0)=false:=by rw[beq_eq_false_iff_ne];exact hn0
 have hll:(dw M f n).length<=1000000:=by unfold dw;rw[List.length_map];exact hl
 have FD:=l8 hd f n hf hp hwn hll;have HD:=aj hd;have HE:=aj hE;obtain⟨ot,hot⟩:∃ot:Int,(if e.parent=par then(q.kids.length:Int)-1 else q.kids.length)=ot:=⟨_,rfl⟩;rw[hot] at hal;have HOT:=aj hot;clear hot;obtain⟨mo,hmo⟩:∃mo:Int,jB (pre M f n 1)=mo:=⟨_,rfl⟩;rw[hmo] at hdd hmb;have abM:IntKind.i64.wrap ((d:Int)+mo)=(d:Int)+mo:=IntWalk.i64_in _ (by omega);have HMO:=aj hmo;clear hmo;go_enter func59,ntmps59;go_upto_region 7 with(at_lookup;first|refine bu _ rfl _ _ 83 rfl underlying3 underlying83 (aW _) rfl hd.map n rfl hwn EB hpe ?_|refine bu _ rfl _ _ 83 rfl underlying3 underlying83 (aW _) rfl hd.map par rfl hwp QB hpq ?_);go_upto_region 9 with(first|(go_at_call 107;refine FD.mono ?_;rintro r w1 ⟨o1,k1,rfl,b1,Aa⟩;have CI:=iO w1 _ (dw M f n) par Aa hll;have ck1:=(HE.out.below b1 ai).c8)|(go_at_call 108;refine CI.mono ?_;rintro r w2 ⟨rfl,rfl⟩));have OD:=uo (HD.out.below b1) n par e q hn hq hql;rw[HOT.out] at OD;go_upto_region 11 with(go_at_call 109;refine OD.mono ?_;rintro r w3 ⟨rfl,rfl⟩);have DD:=qI (HD.out.below b1) par d hwp hu (by omega);go_wp2_with(first|(go_at_call 103;refine DD.mono ?_;rintro r w4 ⟨rfl,b4⟩;have LD:=BD (HD.out.below (aG b1 b4)) f n hf hp hwn hl;rw[HMO.out] at LD)|(go_at_call 110;refine LD.mono ?_;rintro r w5 ⟨rfl,b5⟩;have ck5:=(HE.out.below (aG (aG b1 b4) b5) ai).c8));go_ret;exact⟨rfl,aG (aG b1 b4) b5⟩
theorem a3J {E:Nat->Addr}{B:Nat}{tg:bf}{W:ag}{DB MB:Nat}{p:Int->Option Nat}{M:Dm}{nx c:Nat}(hE:DE E W)(hd:aO B tg W DB MB p M nx c)(par a:Int)(name:Bs)(hwp:bA par)(hq:M par=none):
  ax 57 #[ay DB,aa par,aa a,.string ⟨name.toArray⟩] W fun r w'=>r=.returned (.tuple #[aa 0,eV (E 5)])/\Below W.heap.size W w':=by
 have d0:=hd.d0;have ck:=hE.c5;have HD:=aj hd;have HE:=aj hE;unfold eV;have hpq:=hd.non par hq;go_enter func57,ntmps57;go_upto_region 3 with(at_lookup;refine iB _ rfl _ _ 83 rfl underlying3 underlying83 (aW _) rfl hd.map par rfl hwp hpq ?_);go_region;go_wp2_with fail
 go_ret2
 exact⟨rfl,rfl,rfl,rfl,Nat.le_refl _,fun _ _=>rfl⟩
theorem a0p {E:Nat->Addr}{B:Nat}{tg:bf}{W:ag}{DB MB:Nat}{p:Int->Option Nat}{M:Dm}{nx c:Nat}(hE:DE E W)(hd:aO B tg W DB MB p M nx c)(par a:Int)(name:Bs)(hwp:bA par)(q:dO)(hq:M par=some q)(hkl:q.kids.length<=1000000)(ha:a<0):
  ax 57 #[ay DB,aa par,aa a,.string ⟨name.toArray⟩] W fun r w'=>r=.returned (.tuple #[aa 0,eV (E 2)])/\Below W.heap.size W w':=by
 have d0:=hd.d0;have ck:=hE.c2;have HD:=aj hd;have HE:=aj hE;unfold eV;obtain⟨QB,qa,qk,hpq,hq1⟩:=hd.els par q hq;obtain⟨oq,kq,rfl⟩:=aH hq1.kids;have y3:=hq1.c3;have hkl':(q.kids.length:Int)<=1000000:=by omega
 go_enter func57,ntmps57;go_upto_region 5 with(at_lookup;refine bu _ rfl _ _ 83 rfl underlying3 underlying83 (aW _) rfl hd.map par rfl hwp QB hpq ?_);go_region;go_wp2_with fail
 go_ret2
 exact⟨rfl,rfl,rfl,rfl,Nat.le_refl _,fun _ _=>rfl⟩
theorem Su {E:Nat->Addr}{B:Nat}{tg:bf}{W:ag}{DB MB:Nat}{p:Int->Option Nat}{M:Dm}{nx c:Nat}(hE:DE E W)(hd:aO B tg W DB MB p M nx c)(par a:Int)(name:Bs)(hwp:bA par)(q:dO)(hq:M par=some q)(hkl:q.kids.length<=1000000)(ha:¬a<0)(hal:(q.kids.length:Int)<a):
  ax 57 #[ay DB,aa par,aa a,.string ⟨name.toArray⟩] W fun r w'=>r=.returned (.tuple #[aa 0,eV (E 2)])/\Below W.heap.size W w':=by
 have d0:=hd.d0;have ck:=hE.c2;have HD:=aj hd;have HE:=aj hE;unfold eV;obtain⟨QB,qa,qk,hpq,hq1⟩:=hd.els par q hq;obtain⟨oq,kq,rfl⟩:=aH hq1.kids;have y3:=hq1.c3;have hkl':(q.kids.length:Int)<=1000000:=by omega
 go_enter func57,ntmps57;go_upto_region 5 with(at_lookup;refine bu _ rfl _ _ 83 rfl underlying3 underlying83 (aW _) rfl hd.map par rfl hwp QB hpq ?_);go_region;go_wp2_with fail
 go_ret2
 exact⟨rfl,rfl,rfl,rfl,Nat.le_refl _,fun _ _=>rfl⟩
theorem X5 {E:Nat->Addr}{B:Nat}{tg:bf}{W:ag}{DB MB:Nat}{p:Int->Option Nat}{M:Dm}{nx c:Nat}(hE:DE E W)(hd:aO B tg W DB MB p M nx c)(par a:Int)(name:Bs)(hwp:bA par)(q:dO)(hq:M par=some q)(hkl:q.kids.length<=1000000)(ha:¬a<0)(hal:¬(q.kids.length:Int)<a)(hnm:fP name=true)(d:Nat)(hu:Up M par d)(hdb:d<=1000000)(hdl:10<=d):
  ax 57 #[ay DB,aa par,aa a,.string ⟨name.toArray⟩] W fun r w'=>r=.returned (.tuple #[aa 0,eV (E 8)])/\Below W.heap.size W w':=by
 have d0:=hd.d0;have ck:=hE.c8;have HD:=aj hd;have HE:=aj hE;unfold eV;obtain⟨QB,qa,qk,hpq,hq1⟩:=hd.els par q hq;obtain⟨oq,kq,rfl⟩:=aH hq1.kids;have y3:=hq1.c3;have hkl':(q.kids.length:Int)<=1000000:=by omega
 have IN:=fun w=>gm ⟨name.toArray⟩ (by rw[dS];have:=vz hnm;omega) w;have hin:fP (⟨name.toArray⟩:aD).data.toList=true:=by simpa using hnm
 rw[hin] at IN;have DD:=qI hd par d hwp hu (by omega);have a7Q:(10:Int)<=(d:Int):=by omega
 go_enter func57,ntmps57;go_upto_region 9 with(first|(at_lookup;refine bu _ rfl _ _ 83 rfl underlying3 underlying83 (aW _) rfl hd.map par rfl hwp QB hpq ?_)|(go_at_call 102;refine(IN _).mono ?_;rintro r w0 ⟨rfl,rfl⟩)|(go_at_call 103;refine DD.mono ?_;rintro r w1 ⟨rfl,b1⟩;have CT:=xg (HD.out.below b1);have ck1:=(HE.out.below b1 ai).c8)|(go_at_call 104;refine CT.mono ?_;rintro r w2 ⟨rfl,rfl⟩));go_region;go_wp2_with fail
 go_ret2
 exact⟨rfl,b1.os,b1.tape,b1.output,b1.size,b1.block⟩
theorem X6 {E:Nat->Addr}{B:Nat}{tg:bf}{W:ag}{DB MB:Nat}{p:Int->Option Nat}{M:Dm}{nx c:Nat}(hE:DE E W)(hd:aO B tg W DB MB p M nx c)(par a:Int)(name:Bs)(hwp:bA par)(q:dO)(hq:M par=some q)(hkl:q.kids.length<=1000000)(ha:¬a<0)(hal:¬(q.kids.length:Int)<a)(hnm:fP name=true)(d:Nat)(hu:Up M par d)(hdb:d<=1000000)(hdl:d<10)(hc:100<=c):
  ax 57 #[ay DB,aa par,aa a,.string ⟨name.toArray⟩] W fun r w'=>r=.returned (.tuple #[aa 0,eV (E 7)])/\Below W.heap.size W w':=by
 have d0:=hd.d0;have ck:=hE.c7;have HD:=aj hd;have HE:=aj hE;unfold eV;obtain⟨QB,qa,qk,hpq,hq1⟩:=hd.els par q hq;obtain⟨oq,kq,rfl⟩:=aH hq1.kids;have y3:=hq1.c3;have hkl':(q.kids.length:Int)<=1000000:=by omega
 have IN:=fun w=>gm ⟨name.toArray⟩ (by rw[dS];have:=vz hnm;omega) w;have hin:fP (⟨name.toArray⟩:aD).data.toList=true:=by simpa using hnm
 rw[hin] at IN;have DD:=qI hd par d hwp hu (by omega);have a7Q:¬(10:Int)<=(d:Int):=by omega
 have ag2:(100:Int)<=(c:Int):=by omega
 go_enter func57,ntmps57;go_upto_region 11 with(first|(at_lookup;refine bu _ rfl _ _ 83 rfl underlying3 underlying83 (aW _) rfl hd.map par rfl hwp QB hpq ?_)|(go_at_call 102;refine(IN _).mono ?_;rintro r w0 ⟨rfl,rfl⟩)|(go_at_call 103;refine DD.mono ?_;rintro r w1 ⟨rfl,b1⟩;have CT:=xg (HD.out.below b1);have ck1:=(HE.out.below b1 ai).c7)|(go_at_call 104;refine CT.mono ?_;rintro r w2 ⟨rfl,rfl⟩));go_region;go_wp2_with fail
 go_ret2
 exact⟨rfl,b1.os,b1.tape,b1.output,b1.size,b1.block⟩
theorem Sv {E:Nat->Addr}{B:Nat}{tg:bf}{W:ag}{DB MB:Nat}{p:Int->Option Nat}{M:Dm}{nx c:Nat}(hE:DE E W)(hd:aO B tg W DB MB p M nx c)(n:Int)(hwn:bA n)(hn:M n=none):
  ax 58 #[ay DB,aa n] W fun r w'=>r=.returned (eV (E 5))/\w'=W:=by
 have hpn:=hd.non n hn;have d0:=hd.d0;have c5:=hE.c5;unfold eV;go_enter func58,ntmps58;go_wp2_with(at_lookup;refine iB _ rfl _ _ 83 rfl underlying3 underlying83 (aW _) rfl hd.map n rfl hwn hpn ?_);go_ret;exact⟨rfl,rfl⟩
end
section
open Go.RowKit
theorem Dq {B B':Nat}(W:ag)(o o':Option Addr)(k k':Nat)(L:List Int)(h:W.ownsRow B 3 1 (.slice o L.length k) L.length (bD L))(h':W.ownsRow B' 3 1 (.slice o' L.length k') L.length (bD L))(hl:L.length<=1000000):
  ax 18 #[.slice o L.length k,.slice o' L.length k'] W fun e w'=>e=.returned (.bool true)/\Below W.heap.size W w':=by
 have HR:=aj h;have HR':=aj h';clear h h';go_enter func18,ntmps18;go_wp2_with fail
 go_loopw [5] (fun y wr=>∃i:Nat,i<=L.length/\y=aa i/\Below W.heap.size W wr) (fun y _=>L.length-(intOf y).toNat)
 case atStart=>exact⟨0,Nat.zero_le _,rfl,Below.refl _ _⟩
 case round=>
  obtain⟨i,hi,rfl,hb⟩:=hrel;by_cases hil:i<L.length
  ·obtain⟨y,hy⟩:∃y,L[i]? =some y:=⟨_,List.getElem?_eq_getElem hil⟩;obtain⟨g,hg,hc⟩:=bO (aP HR.out hb) i _ (kI hy);obtain⟨g',hg',hc'⟩:=bO (aP HR'.out hb) i _ (kI hy);have ho:o=some ⟨g,0,none⟩:=by
    rcases HR.out.2 with⟨_,e1⟩|⟨g1,cap,cur,e1,_⟩
    ·omega
    ·cases e1;cases hg;rfl
   have ho':o'=some ⟨g',0,none⟩:=by
    rcases HR'.out.2 with⟨_,e1⟩|⟨g1,cap,cur,e1,_⟩
    ·omega
    ·cases e1;cases hg';rfl
   subst ho ho';have a2I:(i:Int)<L.length:=by omega
   clear hg hg';go_wp2_with fail;go_region;go_wp2_with fail
   go_roundw
   case rel=>exact⟨i+1,by omega,by go_num,Js 1 hb⟩
   case measure=>simp[intOf];omega
  ·have a2I:¬(i:Int)<L.length:=by omega
   go_wp2_with fail;go_ret;exact⟨rfl,hb⟩
theorem zo:∀(K l:List Int),K.Nodup->(∀x∈K,x∈l)->K.length<=l.length
 |[],_,_,_=>Nat.zero_le _
 |k::K,l,h,hs=>by
  have h1:=List.nodup_cons.1 h;have hk:=hs k (by simp);have h2:=zo K (l.erase k) h1.2 (fun x hx=>(List.mem_erase_of_ne (fun e=>h1.1 (by rw[<- e];exact hx))).2 (hs x (by simp[hx])));rw[List.length_erase_of_mem hk] at h2;have:=List.length_pos_of_mem hk;rw[List.length_cons];omega
end
end Go.Proofs.YtjfiehbcamfdfaaGreatDoor

/-
  Parts of the proof.
-/
import Derived.Test.YtjfiehbcamfdfaaGreatDoorQy3
import Derived.Test.YtjfiehbcamfdfaaGreatDoorQy20
namespace Go.Proofs.YtjfiehbcamfdfaaGreatDoor
open Go.Proofs.Tryz
section
open Go.RowKit Go.Extern.Stop Go.Stop Go.Extern
set_option maxHeartbeats 1000000
abbrev eV (a:Addr):Value:=.iface 390 (.pointer (some a))
def Jp:Array Value->Sem Value:=Extern.ReflectliteType.method fun t=>do Rtype.noPackHeld "Comparable" t;pure (.bool (<- typeInfo t).comparable)
theorem kG (w:World):(Jp #[.agg #[hS]]).run prog w=.ok (.bool true) w:=by kernel_rfl
theorem iw (v:Value)(w:World):(Go.method 530 302 v "Comparable").run prog w=.ok (332,v) w:=by kernel_rfl
theorem FQ:(prog.info? 390).map (·.comparable)=some true:=by kernel_rfl
theorem a2d:(prog.info? 392).map (·.size)=some 1:=by kernel_rfl
theorem a1C (v:Value)(xT:TypeId)(w:World):(Instr.typeAssert (.iface 390 v) xT 341 true).run prog w=.ok (.tuple #[.nilIface,.bool false]) w:=run_typeAssert_lacksB underlying341 (by kernel_rfl) (by kernel_rfl) v xT w
theorem a1D (v:Value)(xT:TypeId)(w:World):(Instr.typeAssert (.iface 113 v) xT 341 true).run prog w=.ok (.tuple #[.nilIface,.bool false]) w:=run_typeAssert_lacksB underlying341 (by kernel_rfl) (by kernel_rfl) v xT w
theorem AA (v:Value)(xT:TypeId)(w:World):(Instr.typeAssert (.iface 113 v) xT 309 true).run prog w=.ok (.tuple #[.iface 113 v,.bool true]) w:=run_typeAssert_hasB underlying309 (by kernel_rfl) v xT w
theorem vF (v:Value)(w:World):(Go.method 530 113 v "Unwrap").run prog w=.ok (325,v) w:=by kernel_rfl
theorem ZJ (a:Addr)(w:World):
  ak 146 #[eV a,eV a] w fun e w'=>e=.returned (.bool true)/\w'=w:=by
 obtain⟨i,hi,hcmp⟩:=Option.map_eq_some_iff.1 FQ;obtain⟨j,hj,hjs⟩:=Option.map_eq_some_iff.1 a2d;have h8:=@run_callFunc_extern prog 204 _ Extern.ReflectliteType.typeOf func204 (by kernel_rfl) (by kernel_rfl) (by kernel_rfl) (by kernel_rfl);have h32:=@run_callFunc_extern prog 332 _ Jp func332 (by kernel_rfl) (by kernel_rfl) (by kernel_rfl) (by kernel_rfl);have tT:=uO;have cT:=kG;have mR:=iw;have heq:=run_eql_iface_ptr_same (P:=prog) w a underlying33 underlying390 hi hcmp hj;simp only[hS] at*;go_enter func146,ntmps146;go_wp2;refine wp_loop_rounds 1 ?_;rw[rounds_succ];go_wp2;go_ret;exact⟨rfl,rfl⟩
theorem Vt (a b:Addr)(ca cb:Array Value)(ta tb:TypeId)(w:World)(hne:a≠b)(ha:w.heap[a.block]? =some (.cells ca ta (0,0)))(hb:w.heap[b.block]? =some (.cells cb tb (0,0))):
  ak 146 #[eV a,eV b] w fun e w'=>e=.returned (.bool false)/\w'=w:=by
 obtain⟨i,hi,hcmp⟩:=Option.map_eq_some_iff.1 FQ;obtain⟨j,hj,hjs⟩:=Option.map_eq_some_iff.1 a2d;have h8:=@run_callFunc_extern prog 204 _ Extern.ReflectliteType.typeOf func204 (by kernel_rfl) (by kernel_rfl) (by kernel_rfl) (by kernel_rfl);have h32:=@run_callFunc_extern prog 332 _ Jp func332 (by kernel_rfl) (by kernel_rfl) (by kernel_rfl) (by kernel_rfl);have tT:=uO;have cT:=kG;have mR:=iw;have nE:=a1C;have uE:=wG;have vE:=tZ;have heq:=run_eql_iface_ptr_other (P:=prog) w underlying33 underlying390 hi hcmp hj (by rw[hjs];decide) hne ha hb;simp only[hS] at*;clear ha hb hne;go_enter func146,ntmps146;go_wp2;refine wp_loop_rounds 1 ?_;rw[rounds_succ];go_wp2;go_ret;exact⟨rfl,rfl⟩
theorem CO (pb po:Nat)(b:Addr)(w:World)(h1:w.cell? (ag pb (po+1))=some (eV b)):
  ak 146 #[.iface 113 (.pointer (some ⟨pb,po,none⟩)),eV b] w fun e w'=>e=.returned (.bool true)/\w'=w:=by
 obtain⟨i,hi,hcmp⟩:=Option.map_eq_some_iff.1 FQ;obtain⟨j,hj,hjs⟩:=Option.map_eq_some_iff.1 a2d;have h8:=@run_callFunc_extern prog 204 _ Extern.ReflectliteType.typeOf func204 (by kernel_rfl) (by kernel_rfl) (by kernel_rfl) (by kernel_rfl);have h32:=@run_callFunc_extern prog 332 _ Jp func332 (by kernel_rfl) (by kernel_rfl) (by kernel_rfl) (by kernel_rfl);have tT:=uO;have cT:=kG;have mR:=iw;have nW:=a1D;have uW:=AA;have mU:=vF;have heq:=run_eql_iface_ptr_same (P:=prog) w b underlying33 underlying390 hi hcmp hj;have hty:=run_eql_iface_types (P:=prog) 113 390 (.pointer (some ⟨pb,po,none⟩)) (.pointer (some b)) underlying33 (by decide) w;simp only[hS] at*;go_enter func146,ntmps146;go_wp2;refine wp_loop_rounds 2 ?_;rw[rounds_succ];go_wp2;rw[rounds_succ];go_wp2;go_ret;exact⟨rfl,rfl⟩
theorem AB (pb po:Nat)(b a:Addr)(ca cb:Array Value)(ta tb:TypeId)(w:World)(h1:w.cell? (ag pb (po+1))=some (eV a))(hne:a≠b)(ha:w.heap[a.block]? =some (.cells ca ta (0,0)))(hb:w.heap[b.block]? =some (.cells cb tb (0,0))):
  ak 146 #[.iface 113 (.pointer (some ⟨pb,po,none⟩)),eV b] w fun e w'=>e=.returned (.bool false)/\w'=w:=by
 obtain⟨i,hi,hcmp⟩:=Option.map_eq_some_iff.1 FQ;obtain⟨j,hj,hjs⟩:=Option.map_eq_some_iff.1 a2d;have h8:=@run_callFunc_extern prog 204 _ Extern.ReflectliteType.typeOf func204 (by kernel_rfl) (by kernel_rfl) (by kernel_rfl) (by kernel_rfl);have h32:=@run_callFunc_extern prog 332 _ Jp func332 (by kernel_rfl) (by kernel_rfl) (by kernel_rfl) (by kernel_rfl);have tT:=uO;have cT:=kG;have mR:=iw;have nE:=a1C;have uE:=wG;have vE:=tZ;have nW:=a1D;have uW:=AA;have mU:=vF;have heq:=run_eql_iface_ptr_other (P:=prog) w underlying33 underlying390 hi hcmp hj (by rw[hjs];decide) hne ha hb;have hty:=run_eql_iface_types (P:=prog) 113 390 (.pointer (some ⟨pb,po,none⟩)) (.pointer (some b)) underlying33 (by decide) w;simp only[hS] at*;clear ha hb hne;go_enter func146,ntmps146;go_wp2;refine wp_loop_rounds 2 ?_;rw[rounds_succ];go_wp2;rw[rounds_succ];go_wp2;go_ret;exact⟨rfl,rfl⟩
end
section
open Go.RowKit
structure DE (E:Nat->Addr)(w:World):Prop where
 c2:w.cell? (ag 0 0)=some (.iface 390 (.pointer (some (E 2))))
 c3:w.cell? (ag 3 0)=some (.iface 390 (.pointer (some (E 3))))
 c4:w.cell? (ag 4 0)=some (.iface 390 (.pointer (some (E 4))))
 c5:w.cell? (ag 6 0)=some (.iface 390 (.pointer (some (E 5))))
 c6:w.cell? (ag 9 0)=some (.iface 390 (.pointer (some (E 6))))
 c7:w.cell? (ag 2 0)=some (.iface 390 (.pointer (some (E 7))))
 c8:w.cell? (ag 7 0)=some (.iface 390 (.pointer (some (E 8))))
 c9:w.cell? (ag 5 0)=some (.iface 390 (.pointer (some (E 9))))
 c10:w.cell? (ag 8 0)=some (.iface 390 (.pointer (some (E 10))))
theorem DE.below {E:Nat->Addr}{w w':World}{B:Nat}(h:DE E w)(hb:Below B w w')(hB:w.heap.size<=B):DE E w' where
 c2:=(hb.cell (Nat.lt_of_lt_of_le (ax h.c2) hB)).trans h.c2
 c3:=(hb.cell (Nat.lt_of_lt_of_le (ax h.c3) hB)).trans h.c3
 c4:=(hb.cell (Nat.lt_of_lt_of_le (ax h.c4) hB)).trans h.c4
 c5:=(hb.cell (Nat.lt_of_lt_of_le (ax h.c5) hB)).trans h.c5
 c6:=(hb.cell (Nat.lt_of_lt_of_le (ax h.c6) hB)).trans h.c6
 c7:=(hb.cell (Nat.lt_of_lt_of_le (ax h.c7) hB)).trans h.c7
 c8:=(hb.cell (Nat.lt_of_lt_of_le (ax h.c8) hB)).trans h.c8
 c9:=(hb.cell (Nat.lt_of_lt_of_le (ax h.c9) hB)).trans h.c9
 c10:=(hb.cell (Nat.lt_of_lt_of_le (ax h.c10) hB)).trans h.c10
end
section
open Go.RowKit
set_option maxHeartbeats 4000000
set_option maxRecDepth 20000
theorem a5T (M:Dm):K9 M []=M:=by funext i;simp[K9]
theorem a1j {E:Nat->Addr}{B:Nat}{tg:kE}{W:World}{DB MB:Nat}{p:Int->Option Nat}{M:Dm}{nx c:Nat}(hE:DE E W)(hd:bG B tg W DB MB p M nx c)(e:iy)(hn:M 0=some e):
  ak 58 #[aj DB,aa 0] W fun r w'=>r=.returned (eV (E 3))/\w'=W:=by
 obtain⟨EB,va,vk,hpn,he⟩:=hd.els 0 e hn;have d0:=hd.d0;have c3:=hE.c3;unfold eV;go_enter func58,ntmps58;go_wp2_with(at_lookup;refine eY _ rfl _ _ 83 rfl underlying3 underlying83 (eG _) rfl hd.map 0 rfl (by decide) EB hpn ?_);go_ret;exact⟨rfl,rfl⟩
theorem a1B {B:Nat}{tg:kE}{W:World}{DB MB:Nat}{p:Int->Option Nat}{M:Dm}{nx c:Nat}(hd:bG B tg W DB MB p M nx c)(n:Int)(e q:iy)(hn:M n=some e)(hn0:n≠0)(hq:M e.parent=some q)(hk:q.kids≠[])(f:Nat)(hf:f<=900000)(L:List Int)
  (hp:Dp (gH M e.parent ⟨q.name,q.ats,q.parent,woL q.kids n⟩) f n) (hL:jm (gH M e.parent ⟨q.name,q.ats,q.parent,woL q.kids n⟩) f n=L) (hin:∀k∈L,gH M e.parent ⟨q.name,q.ats,q.parent,woL q.kids n⟩ k≠none) (hnd:L.Nodup) (hll:L.length<=1000000):
  ak 58 #[aj DB,aa n] W fun r w'=>r=.returned .nilIface/\KT tg W w'/\∃uF p',(∀x,x<W.heap.size->uF x=tg x)/\bG B uF w' DB MB p' (K9 (gH M e.parent ⟨q.name,q.ats,q.parent,woL q.kids n⟩) L) nx (c-L.length):=by
 obtain⟨EB,va,vk,hpn,he⟩:=hd.els n e hn;have hwn:=hd.i64 hn;have d0:=hd.d0;have TO:=a19 hd n e q hn hq hk;have a5D:(n==0)=false:=by rw[beq_eq_false_iff_ne];exact hn0
 obtain⟨M1,hM1⟩:∃M1,gH M e.parent ⟨q.name,q.ats,q.parent,woL q.kids n⟩=M1:=⟨_,rfl⟩;rw[hM1] at TO hp hL hin⊢;clear hM1;go_enter func58,ntmps58;go_upto_region 7 with(first|(at_lookup;refine eY _ rfl _ _ 83 rfl underlying3 underlying83 (eG _) rfl hd.map n rfl hwn EB hpn ?_)|(go_at_call 106;refine TO.mono ?_;rintro r w1 ⟨rfl,kt1,qi,tk1,d1⟩));have FR:=Vn d1 f n hf hp hwn (by rw[hL];exact hll);rw[hL] at FR;have HIN:Hid (∀k∈L,M1 k≠none):=hin;have HND:Hid L.Nodup:=hnd;have HKT:Hid (KT tg W w1/\∀x,x<W.heap.size->qi x=tg x):=⟨kt1,tk1⟩;have al7:(L.length:Int)<=1000000:=by omega
 clear hin hnd TO hp hL;go_wp2_with(go_at_call 107;refine FR.mono ?_;rintro r w2 ⟨o2,k2,rfl,b2,Cs⟩);have d2:=d1.below b2;have HD2:Hid (bG B qi w2 DB MB p M1 nx c):=d2;have lM:MB<w1.heap.size:=d1.map.lt;have HB2:Hid (Below w1.heap.size w1 w2):=b2;clear d1 d2 b2 FR d0 kt1 tk1
 go_loopw [33] (fun y wr=>∃(i:Nat) (p':Int->Option Nat),i<=L.length/\y=aa i/\w2.grownBy wr (some MB)/\bG B qi wr DB MB p' (K9 M1 (L.take i)) nx (c-i)) (fun y _=>L.length-(intOf y).toNat)
 case atStart=>exact⟨0,p,Nat.zero_le _,rfl,⟨rfl,rfl,rfl,Nat.le_refl _,fun _ _ _=>rfl⟩,by rw[List.take_zero,a5T];exact HD2.out⟩
 case round=>
  obtain⟨i,p',hi,rfl,hg,hdi⟩:=hrel;by_cases hlt:i<L.length
  ·have hlt':(i:Int)<(L.length:Int):=by omega
   obtain⟨k,hx, -⟩:=drop_at hlt;obtain⟨g,hgb,hc⟩:=bJ Cs i _ (wW hx);have hov:o2=some ⟨g,0,none⟩:=by
    obtain⟨o',cap',h1, -, -, -,h2⟩:=bA Cs;cases h1;exact h2 g hgb
   subst hov;have hgM:g≠MB:=by have:=(Cs.lt g hgb).1;omega
   have hcw:=(World.cell?_of_block (a:=⟨g,i,none⟩) (hg.block g (Cs.lt g hgb).2 (fun e1=>hgM (Option.some.inj e1)))).trans hc;have hkm:k∈L:=List.mem_of_getElem? hx;have hnk:k ∉ L.take i:=fun hm=>by
    have:=HND.out;rw[<- List.take_append_drop i L] at this;exact(List.nodup_append.1 this).2.2 k hm k (by
     obtain⟨y,hy,hdr⟩:=drop_at hlt;rw[hx] at hy;cases hy;rw[hdr];simp) rfl
   obtain⟨fk,hfk⟩:∃fk,K9 M1 (L.take i) k=some fk:=by
    unfold K9;rw[if_neg hnk];cases hm:M1 k with
    |none=>exact absurd hm (HIN.out k hkm)
    |some fk=>exact⟨fk,rfl⟩
   obtain⟨kb,ka,kk,hpk, -⟩:=hdi.els k fk hfk;have hwk:=hdi.i64 hfk;have d0:=hdi.d0;have htk:K9 M1 (L.take (i+1))=a2b (K9 M1 (L.take i)) k:=by
    rw[List.take_add_one,hx];exact a5C _ _ _
   have HTK:Hid (K9 M1 (L.take (i+1))=a2b (K9 M1 (L.take i)) k):=htk;clear htk hx hkm hnk hc hgb;go_wp2_with(at_delete;refine a5a _ rfl _ _ 83 3 rfl underlying3 underlying83 rfl hdi.map k rfl hwk kb hpk ?_;intro w3 pm3 ht3);have HD3:Hid (bG B qi w3 DB MB (fun j=>if j=k then none else p' j) (K9 M1 (L.take (i+1))) nx (c-(i+1))):=(by rw[HTK.out,Nat.sub_add_eq];exact hdi.cut pm3 ht3:bG B qi w3 DB MB (fun j=>if j=k then none else p' j) (K9 M1 (L.take (i+1))) nx (c-(i+1)));have hg3:w2.grownBy w3 (some MB):=hg.trans ht3.grown
   go_roundw
   case rel=>exact⟨i+1,_,by omega,by go_num,hg3,HD3.out⟩
   case measure=>simp[intOf];omega
  ·obtain rfl:i=L.length:=by omega
   have hge:¬(L.length:Int)<(L.length:Int):=by omega
   rw[List.take_length] at hdi;go_wp2_with fail;go_ret;refine⟨rfl,?_,qi,HKT.out.2,p',hdi⟩;have kt:=HKT.out.1;have bb:=HB2.out;refine kt.trans (uF:=qi) ⟨hg.os.trans bb.os,hg.tape.trans bb.tape,hg.output.trans bb.output,Nat.le_trans bb.size hg.size,fun b hb ht=>?_⟩ HKT.out.2;exact(hg.block b (Nat.lt_of_lt_of_le hb bb.size) (fun e1=>by have e2:=Option.some.inj e1;rw[e2,hdi.kF] at ht;cases ht)).trans (bb.block b hb)
end
section
open Go.RowKit
set_option maxHeartbeats 2000000
def a2T:Array Value->Nat->List Value->Array Value
 |cur,_,[]=>cur
 |cur,o,v::r=>a2T (cur.setIfInBounds o v) (o+1) r
theorem DX:∀(vs:List Value) (cur:Array Value) (o:Nat),(a2T cur o vs).size=cur.size
 |[],_,_=>rfl
 |v::r,cur,o=>by rw[a2T,DX r];simp
theorem M7:∀(vs:List Value) (cur:Array Value) (o j:Nat),o+vs.length<=cur.size->(a2T cur o vs)[j]? =if o<=j/\j<o+vs.length then vs[j-o]? else cur[j]?
 |[],cur,o,j,_=>by rw[a2T,if_neg (by simp only[List.length_nil];omega)]
 |v::r,cur,o,j,h=>by
  rw[List.length_cons] at h;rw[a2T,M7 r _ _ _ (by simp;omega)];by_cases h1:o+1<=j/\j<o+1+r.length
  ·rw[if_pos h1,if_pos (by rw[List.length_cons];omega),show j-o=(j-(o+1))+1 from by omega];simp
  ·rw[if_neg h1,Array.getElem?_setIfInBounds];by_cases h2:o=j
   ·subst h2;rw[if_pos rfl,if_pos (by omega),if_pos (by rw[List.length_cons];omega)];simp
   ·rw[if_neg h2,if_neg (by rw[List.length_cons];omega)]
theorem setCells_at:∀(vs:List Value) (w:World) (g o:Nat) (cur:Array Value) (t:TypeId),w.heap[g]? =some (.cells cur t)->(w.setCells g o vs).heap[g]? =some (.cells (a2T cur o vs) t)
 |[],_,_,_,_,_,h=>h
 |v::r,w,g,o,cur,t,h=>by
  rw[World.setCells,a2T];exact setCells_at r _ g (o+1) _ t (heap_setCell_same w g o cur t v h)
theorem SK:∀(vs:List Value) (w:World) (g o x:Nat),x≠g->(w.setCells g o vs).heap[x]? =w.heap[x]?
 |[],_,_,_,_,_=>rfl
 |v::r,w,g,o,x,h=>by
  rw[World.setCells,SK r _ g (o+1) x h];exact Below.heap_setCell _ _ _ x h
theorem o6:∀(vs:List Value) (w:World) (g o:Nat),w.grownBy (w.setCells g o vs) (some g)
 |[],w,g,o=>⟨rfl,rfl,rfl,Nat.le_refl _,fun _ _ _=>rfl⟩
 |v::r,w,g,o=>by
  rw[World.setCells];have h1:=o6 r (w.setCell ⟨g,o,none⟩ v) g (o+1);have h2:=(Below.refl g w).setCell (p:=⟨g,o,none⟩) eU v;have h3:w.grownBy (w.setCell ⟨g,o,none⟩ v) (some g):=⟨h2.os,h2.tape,h2.output,h2.size,fun x _ hx=>Below.heap_setCell _ _ _ x (fun e=>hx (by rw[e]))⟩;exact h3.trans h1
def CU (L:List Int)(i:Nat)(k:Int):List Int:=L.take i++k::L.drop i
theorem a14 (L:List Int)(i:Nat)(k:Int)(h:i<=L.length):(CU L i k).length=L.length+1:=by
 unfold CU;simp;omega
theorem WO (L:List Int)(i j:Nat)(k:Int)(h:i<=L.length):(bY (CU L i k))[j]? =if j<i then(bY L)[j]? else if j=i then some (aa k) else(bY L)[j-1]? :=by
 unfold CU bY;rw[List.getElem?_map,List.getElem?_map,List.getElem?_map];by_cases h1:j<i
 ·rw[if_pos h1,List.getElem?_append_left (by simp;omega),List.getElem?_take,if_pos h1]
 ·rw[if_neg h1,List.getElem?_append_right (by simp;omega),List.length_take,Nat.min_eq_left h];by_cases h2:j=i
  ·subst h2;rw[if_pos rfl,Nat.sub_self];rfl
  ·rw[if_neg h2,show j-i=(j-i-1)+1 from by omega,List.getElem?_cons_succ,List.getElem?_drop,show i+(j-i-1)=j-1 from by omega]
theorem a6Y {cur:Array Value}{xs:List Value}{n:Nat}(hn:xs.length=n)(h:∀j,j<n->cur[j]? =xs[j]?):cur.toList.take (n*1)=xs:=by
 apply List.ext_getElem?;intro j;rw[Nat.mul_one,List.getElem?_take];by_cases hj:j<n
 ·rw[if_pos hj,Array.getElem?_toList];exact h j hj
 ·rw[if_neg hj,List.getElem?_eq_none (by omega)]
theorem a3p {w w':World}{r:Option Nat}{k:Nat}(h:(w.drewN k).grownBy w' r):w.grownBy w' r:=⟨h.os,h.tape,h.output,h.size,h.block⟩
theorem a0O {w:World}{B g cap n:Nat}{cur:Array Value}{xs:List Value}(hB:B<=g)(hg:w.heap[g]? =some (.cells cur 3))(h1:xs.length=n)(h2:n<=cap)(h3:cap<=maxLen)(h4:cur.size=cap)(h5:∀j,j<n->cur[j]? =xs[j]?):w.ownsRow B 3 1 (.slice (some ⟨g,0,none⟩) n cap) n xs:=
 ⟨by rw[h1,Nat.mul_one],.inr ⟨g,cap,cur,rfl,hB,hg,h2,h3,by rw[h4,Nat.mul_one],a6Y h1 h5⟩⟩
theorem a5E (w:World)(o:Obj)(g i j:Nat)(a b:List Value):w.heap.size<=((((w.alloc o).drew.setCells g i a).drew).setCells g j b).heap.size:=by
 have h1:w.heap.size<=(w.alloc o).heap.size:=(aW w o).size;have h2:(w.alloc o).heap.size<=((w.alloc o).drew.setCells g i a).heap.size:=(o6 a ((w.alloc o).drew) g i).size;have h3:((w.alloc o).drew.setCells g i a).heap.size<=((((w.alloc o).drew.setCells g i a).drew).setCells g j b).heap.size:=(o6 b (((w.alloc o).drew.setCells g i a).drew) g j).size;omega
theorem EL (n:Nat):(Builtin.zeroCells (Value.int .i64 0).cells n).size=n:=by
 simp[Builtin.zeroCells,Value.cells]
theorem abd {B:Nat}{w:World}{v:Value}{L:List Int}{k:Int}{i vb:Nat}(ho:w.ownsRow B 3 1 v L.length (bY L))(hi:i<=L.length)(hb:L.length<=1000000)(hv:w.heap[vb]? =some (.cells #[aa k] 3))(hne:v.ownBlock≠some vb)(hB:B<=w.heap.size):
  ak 105 #[v,aa i,.slice (some ⟨vb,0,none⟩) 1 1] w fun e w'=>∃o c,e=.returned (.slice o (L.length+1) c)/\w'.ownsRow B 3 1 (.slice o (L.length+1) c) (L.length+1) (bY (CU L i k))/\w.grownBy w' v.ownBlock/\((Value.slice o (L.length+1) c).ownBlock=v.ownBlock\/∀g,(Value.slice o (L.length+1) c).ownBlock=some g->w.heap.size<=g):=by
 have hlen:(bY L).length=L.length:=QN L;have hil:(bY (CU L i k)).length=L.length+1:=(QN _).trans (a14 L i k hi);have hvs:∀j u,[Value.int .i64 k][j]? =some u->w.cell? (ag vb (0+j))=some u:=fun j u hu=>by
  rw[Nat.zero_add];exact aA hv j u (by simpa using hu)
 have h1v:∀u∈[Value.int .i64 k],u.oneCell'=true:=fun u hu=>by simp at hu;rw[hu];rfl
 have h1c:∀u∈bY L,u.oneCell'=true:=fun u hu=>by
  obtain⟨x, -,rfl⟩:=List.mem_map.1 hu;rfl
 have fresh:∀(o:Option Addr) (c:Nat),(∀a,o=some a->∀j u,(bY L)[j]? =some u->w.cell? (a.add j)=some u)->(o=none->L.length=0)->L.length<=c->c<L.length+1->i=L.length->
   ak 105 #[.slice o L.length c,aa i,.slice (some ⟨vb,0,none⟩) 1 1] w fun e w'=>∃o' c',e=.returned (.slice o' (L.length+1) c')/\w'.ownsRow B 3 1 (.slice o' (L.length+1) c') (L.length+1) (bY (CU L i k))/\(∀r,w.grownBy w' r)/\∀g,(Value.slice o' (L.length+1) c').ownBlock=some g->w.heap.size<=g:=fun o c hc hz h3 h4 h5=>by
  subst h5;have H:=Any2.slices_Insert_int_end_grow Tryz.a0G o L.length c vb 0 1 1 (bY L) [aa k] w (by decide) h3 (by omega) (by omega) hlen rfl hz hc hvs h1v;refine H.mono fun e w' ⟨he,hw⟩=>⟨_,_,he,?_,fun r=>?_,fun g hg=>by cases hg;exact Nat.le_refl _⟩
  ·rw[hw];have hcg:=grownCap_ge w (L.length+1) c (Tryz.PS.t 3);refine a0O hB (dh w.drew _ _) hil hcg (grownCap_le_maxLen _ _ _ _ (by rw[aQ];omega)) ?_ fun j hj=>?_
   ·rw[Array.size_append,EL];simp[hlen];omega
   ·rw[Array.getElem?_append_left (by simp[hlen];omega),List.getElem?_toArray,WO L _ j k eU];by_cases h6:j<L.length
    ·rw[if_pos h6,List.getElem?_append_left (by omega)]
    ·rw[if_neg h6,if_pos (by omega),List.getElem?_append_right (by omega),show j-(bY L).length=0 from by omega];rfl
  ·rw[hw];exact⟨rfl,rfl,rfl,(aW w _).size,fun x hx _=>(aW w _).block x hx⟩
 obtain⟨h1,h2⟩:=ho;rcases h2 with⟨rfl,h2⟩|⟨g,cap,cur,rfl,h3,h4,h5,h6,h7,h8⟩
 ·have H:=fresh none 0 (fun a ha=>by cases ha) (fun _=>h2) (by omega) (by omega) (by omega);rw[h2] at H;rw[h2];exact H.mono fun e w' ⟨o',c',r1,r2,r3,r4⟩=>⟨o',c',r1,r2,r3 _,.inr r4⟩
 rw[Nat.mul_one] at h7 h8;have hgv:vb≠g:=fun e=>hne (by rw[e];rfl);have a9y:∀j,j<L.length->cur[j]? =(bY L)[j]? :=fun j hj=>by
  rw[<- h8,List.getElem?_take,if_pos hj,Array.getElem?_toList]
 have hcs:∀j u,(bY L)[j]? =some u->w.cell? (ag g (0+j))=some u:=fun j u hu=>by
  have hj:j<L.length:=by rw[<- hlen];exact(List.getElem?_eq_some_iff.1 hu).1
  rw[Nat.zero_add];exact aA h4 j u ((a9y j hj).trans hu)
 rw[aQ] at h6;have hin:∀j,j<cap->(w.cell? (ag g (0+j))).isSome=true:=fun j hj=>by
  rw[Nat.zero_add,aA h4 j _ (Array.getElem?_eq_getElem (by omega))];rfl
 by_cases hroom:L.length+1<=cap
 ·by_cases a9z:i<L.length
  ·have H:=Any2.slices_Insert_int_shift Tryz.a0G g 0 L.length cap i vb 0 1 1 (bY L) [aa k] w a9z (by decide) hroom (by omega) hgv hlen rfl hcs (fun j hj=>hin j (by omega)) (fun j _=>dF h4 _) hvs h1c h1v 3 3 1 cap (by unfold World.shape?;rw[hv];rfl) (by unfold World.shape?;rw[h4];simp[h7]) (by omega) (dF hv _) (dF hv _);refine H.mono fun e w' ⟨he,hw⟩=>⟨_,_,he,?_,?_,.inl rfl⟩
   ·rw[hw,Nat.zero_add,Nat.zero_add];refine a0O h3 (setCells_at _ _ g i _ _ (setCells_at _ w.drew g (i+1) cur _ h4)) hil hroom (by rw[aQ];omega) (by rw[DX,DX,h7]) fun j hj=>?_;rw[M7 _ _ _ _ (by rw[DX];simp;omega),M7 _ _ _ _ (by rw[List.length_drop];omega),WO L i j k hi];by_cases h9:j<i
    ·rw[if_pos h9,if_neg (by simp;omega),if_neg (by omega)];exact a9y j (by omega)
    ·rw[if_neg h9];by_cases h10:j=i
     ·subst h10;rw[if_pos rfl,if_pos (by simp),Nat.sub_self];rfl
     ·rw[if_neg h10,if_neg (by simp;omega),if_pos (by rw[List.length_drop];omega),List.getElem?_drop,show i+(j-(i+1))=j-1 from by omega]
   ·rw[hw];exact a3p (k:=1) ((o6 _ w.drew g _).trans (o6 _ _ g _))
  ·obtain rfl:i=L.length:=by omega
   have H:=Any2.slices_Insert_int_end_room Tryz.a0G g 0 L.length cap vb 0 1 1 [aa k] w (by decide) hroom (by omega) rfl (fun j hj=>by rw[show 0+L.length+j=0+(L.length+j) from by omega];exact hin _ (by omega)) (fun j _=>dF h4 _) hvs h1v;refine H.mono fun e w' ⟨he,hw⟩=>⟨_,_,he,?_,?_,.inl rfl⟩
   ·rw[hw,Nat.zero_add];refine a0O h3 (setCells_at _ w g L.length cur _ h4) hil hroom (by rw[aQ];omega) (by rw[DX,h7]) fun j hj=>?_;rw[M7 _ _ _ _ (by simp;omega),WO L _ j k eU];by_cases h9:j<L.length
    ·rw[if_pos h9,if_neg (by omega)];exact a9y j h9
    ·obtain rfl:j=L.length:=by omega
     rw[if_pos ⟨Nat.le_refl _,by simp⟩,if_neg (Nat.lt_irrefl _),if_pos rfl,Nat.sub_self];rfl
   ·rw[hw];exact o6 _ w g _
 ·by_cases a9z:i<L.length
  ·have H:=Any2.slices_Insert_int_grow Tryz.a0G g 0 L.length cap i vb 0 1 1 (bY L) [aa k] w a9z (by decide) h5 (by omega) (by omega) hlen rfl hcs hvs h1c h1v;have hcg:=grownCap_ge w (L.length+1) cap (Tryz.PS.t 3);refine H.mono fun e w' ⟨he,hw⟩=>⟨_,_,he,?_,?_,.inr fun g' hg'=>by cases hg';exact Nat.le_refl _⟩
   ·rw[hw];have hs0:((bY L).take i).toArray.size=i:=by simp[hlen];omega
    refine a0O hB (setCells_at _ _ w.heap.size (i+1) _ _ (setCells_at _ _ w.heap.size i _ _ (dh w _ _))) hil hcg (grownCap_le_maxLen _ _ _ _ (by rw[aQ];omega)) ?_ fun j hj=>?_
    ·rw[DX,DX,Array.size_append,Array.size_append,EL,EL,hs0];omega
    ·rw[M7 _ _ _ _ (by rw[DX,Array.size_append,Array.size_append,EL,EL,hs0,List.length_drop];omega),M7 _ _ _ _ (by rw[Array.size_append,Array.size_append,EL,EL,hs0];simp;omega),WO L i j k hi];by_cases h9:j<i
     ·rw[if_pos h9,if_neg (by omega),if_neg (by simp;omega),Array.getElem?_append_left (by rw[Array.size_append,hs0];omega),Array.getElem?_append_left (by omega),List.getElem?_toArray,List.getElem?_take,if_pos h9]
     ·rw[if_neg h9];by_cases h10:j=i
      ·subst h10;rw[if_pos rfl,if_neg (by omega),if_pos (by simp),Nat.sub_self];rfl
      ·rw[if_neg h10,if_pos (by rw[List.length_drop];omega),List.getElem?_drop,show i+(j-(i+1))=j-1 from by omega]
   ·rw[hw];refine⟨?_,?_,?_,?_,fun x hx hne2=>?_⟩
    ·exact(o6 _ _ _ _).os.trans (o6 _ ((w.alloc _).drew) _ _).os
    ·exact(o6 _ _ _ _).tape.trans (o6 _ ((w.alloc _).drew) _ _).tape
    ·exact(o6 _ _ _ _).output.trans (o6 _ ((w.alloc _).drew) _ _).output
    ·exact a5E w _ _ _ _ _ _
    ·rw[SK _ _ _ _ x (by omega)];refine Eq.trans (SK _ _ _ _ x (by omega)) ((aW w _).block x hx)
  ·obtain rfl:i=L.length:=by omega
   have H:=fresh (some ⟨g,0,none⟩) cap (fun a ha j u hu=>by
    cases ha;have hadd:(⟨g,0,none⟩:Addr).add j=⟨g,j,none⟩:=by unfold Addr.add;split<;>simp_all
    rw[hadd];have:=hcs j u hu;rw[Nat.zero_add] at this;exact this) (fun h=>by cases h) h5 (by omega) rfl
   exact H.mono fun e w' ⟨o',c',r1,r2,r3,r4⟩=>⟨o',c',r1,r2,r3 _,.inr r4⟩
end
section
open Go.RowKit
set_option maxHeartbeats 4000000
set_option maxRecDepth 20000
def Up (M:Dm):Int->Nat->Prop
 |i,0=>M i=none
 |i,d+1=>∃e,M i=some e/\Up M e.parent d
theorem VR {B:Nat}{tg:kE}{W:World}{DB MB:Nat}{p:Int->Option Nat}{M:Dm}{nx c:Nat}(hd:bG B tg W DB MB p M nx c)(n:Int)(d:Nat)(hn:dH n)(hu:Up M n d)(hdl:d<=1000000):
  ak 103 #[aj DB,aa n] W fun r w'=>r=.returned (aa d)/\Below W.heap.size W w':=by
 have d0:=hd.d0;have ala:(d:Int)<=1000000:=by omega
 have HD:Hid (bG B tg W DB MB p M nx c):=hd;go_enter func103,ntmps103;go_wp2_with(at_lookup;refine a2R _ rfl _ _ 83 rfl underlying3 underlying83 (eG _) rfl hd.map n rfl hn ?_)
 go_loopw [5,6] (fun y z wr=>∃(j r:Nat) (i:Int),j+r=d/\y=aa j/\z=.pointer ((p i).map fun b=>⟨b,0,none⟩)/\Up M i r/\Below W.heap.size W wr) (fun y _ _=>d-(intOf y).toNat)
 case atStart=>exact⟨0,d,n,by omega,rfl,rfl,hu,Below.refl _ _⟩
 case round=>
  obtain⟨j,r,i,hjr,rfl,rfl,hup,hb⟩:=hrel;have hdw:=HD.out.below hb;cases r with
  |zero=>
   have hpi:=HD.out.non i hup;rw[hpi];obtain rfl:j=d:=by omega
   go_wp2_with fail;go_ret;exact⟨rfl,hb⟩
  |succ r=>
   obtain⟨e,hm,abe⟩:=hup;obtain⟨b,va,vk,hpi,he⟩:=hdw.els i e hm;have hwp:=(hdw.wf i e hm).1;rw[hpi];have x0:=hdw.d0;have x2:=he.c2;have g1:(Instr.lookup 83 (.map (some MB)) (aa e.parent) false).run prog wr.drew=.ok (.pointer ((p e.parent).map fun b=>⟨b,0,none⟩)) wr.drew:=by
    cases ZL:p e.parent with
    |none=>exact iA.a6X (w:=wr.drew) (hdw.map.same rfl) underlying3 underlying83 (eG _) hwp ZL
    |some b'=>exact iA.run_get (w:=wr.drew) (hdw.map.same rfl) underlying3 underlying83 (eG _) hwp ZL
   have hj:(j:Int)<1000000:=by omega
   have HUP:Hid (Up M e.parent r):=abe;clear abe hm he;go_wp2_with fail;go_region;go_wp2_with fail
   go_roundw
   case rel=>exact⟨j+1,r,e.parent,by omega,by go_num,rfl,HUP.out,lX 1 hb⟩
   case measure=>simp[intOf];omega
theorem a6Z {B:Nat}{tg:kE}{W:World}{DB MB:Nat}{p:Int->Option Nat}{M:Dm}{nx c:Nat}(hd:bG B tg W DB MB p M nx c)(par:Int)(a:Nat)(name:Bs)(q:iy)(hq:M par=some q)(ha:a<=q.kids.length)(hnm:fo name=true)(d:Nat)(hu:Up M par d)(hdl:d<10)(hc:c<100)(hnx:nx<1000000)(hkl:q.kids.length<=1000000)(hB:B<=W.heap.size):
  ak 57 #[aj DB,aa par,aa a,.string ⟨name.toArray⟩] W fun r w'=>r=.returned (.tuple #[aa nx,.nilIface])/\KT tg W w'/\∃uF p',(∀x,x<W.heap.size->uF x=tg x)/\bG B uF w' DB MB p' (gH (gH M nx ⟨name,[],par,[]⟩) par ⟨q.name,q.ats,q.parent,CU q.kids a nx⟩) (nx+1) (c+1):=by
 obtain⟨QB,qa,qk,hpq,hq1⟩:=hd.els par q hq;obtain⟨oq,kq,rfl⟩:=aI hq1.kids;have hwp:=hd.i64 hq;have d0:=hd.d0;have y3:=hq1.c3;have hnl:=Aq hnm;have ha0:¬(a:Int)<0:=by omega
 have hak:¬(q.kids.length:Int)<(a:Int):=by omega
 have hkl':(q.kids.length:Int)<=1000000:=by omega
 have IN:=fun w=>kZ ⟨name.toArray⟩ (by rw[fD];omega) w;have hin:fo (⟨name.toArray⟩:ByteArray).data.toList=true:=by simpa using hnm
 rw[hin] at IN;have DD:=VR hd par d hwp hu (by omega);have a7a:¬(10:Int)<=(d:Int):=by omega
 have abf:¬(100:Int)<=(c:Int):=by omega
 have hpn:par≠(nx:Int):=by have:=hd.dom par q hq;omega
 have HD:Hid (bG B tg W DB MB p M nx c):=hd;have HQ1:Hid (yf B tg W par QB q qa (.slice oq q.kids.length kq)):=hq1;go_enter func57,ntmps57;go_upto_region 12 with(first|(at_lookup;refine eY _ rfl _ _ 83 rfl underlying3 underlying83 (eG _) rfl hd.map par rfl hwp QB hpq ?_)|(go_at_call 102;refine(IN _).mono ?_;rintro r w0 ⟨rfl,rfl⟩)|(go_at_call 103;refine DD.mono ?_;rintro r w1 ⟨rfl,b1⟩;have CT:=a13 (HD.out.below b1))|(go_at_call 104;refine CT.mono ?_;rintro r w2 ⟨rfl,rfl⟩));have hd2:=HD.out.below b1;have E0:=dh w2 #[.string ⟨name.toArray⟩,.slice none 0 0,aa par,.slice none 0 0] 90;have bE:=aW w2 (.cells #[.string ⟨name.toArray⟩,.slice none 0 0,aa par,.slice none 0 0] 90);have NE:Vd B tg (w2.alloc (.cells #[.string ⟨name.toArray⟩,.slice none 0 0,aa par,.slice none 0 0] 90)) w2.heap.size ⟨name,[],par,[]⟩ (.slice none 0 0) (.slice none 0 0):=⟨E0,Nat.le_trans hB b1.size,hd2.new eU,World.ownsRow_nil _ _ _ _,fun g hg=>absurd hg (by simp[Value.ownBlock]),World.ownsRow_nil _ _ _ _,fun g hg=>absurd hg (by simp[Value.ownBlock])⟩;have KE:=Ve B tg _ DB MB p M nx c w2.heap.size ⟨name,[],par,[]⟩ (.slice none 0 0) (.slice none 0 0) (hd2.below bE) NE ⟨hwp,by simp⟩ hnx;go_upto_region 13 with(go_at_call 43;refine KE.mono ?_;rintro r w3 ⟨rfl,k3,d3⟩);have hU:=az b1 bE;have tgo:∀x t,tg x=some t->lJ tg nx w2.heap.size (.slice none 0 0) (.slice none 0 0) x=some t:=fun x t ht=>Ji ht (hd2.new eU) (fun g hg=>by cases hg) (fun g hg=>by cases hg);have tgn:∀x,x<w0.heap.size->lJ tg nx w2.heap.size (.slice none 0 0) (.slice none 0 0) x=tg x:=fun x hx=>Eh (by have:=b1.size;omega) (by simp[Value.ownBlock]) (by simp[Value.ownBlock]);have hq3:yf B (lJ tg nx w2.heap.size (.slice none 0 0) (.slice none 0 0)) w3 par QB q qa (.slice oq q.kids.length kq):=HQ1.out.turn fun g t ht hk=>by
  have hne:g≠DB/\g≠MB:=⟨fun e1=>(by have h1:=HD.out.jP;rw[<- e1,ht] at h1;cases h1;rcases hk with hk|hk|hk<;>cases hk),fun e1=>(by have h1:=HD.out.kF;rw[<- e1,ht] at h1;cases h1;rcases hk with hk|hk|hk<;>cases hk)⟩;have hgl:=(HD.out.low g t ht).2;exact⟨tgo g t ht,(k3.block g (by have:=hU.size;omega) hne.1 hne.2).trans (hU.block g hgl)⟩
 obtain⟨T3,H7⟩:∃T,lJ tg nx w2.heap.size (.slice none 0 0) (.slice none 0 0)=T:=⟨_,rfl⟩;rw[H7] at d3 tgo tgn hq3;have HT3:Hid (∀x,x<w0.heap.size->T3 x=tg x):=tgn;have b4:=aW w3 (.cells #[aa nx] 3);have H4:=dh w3 #[aa nx] 3;have d4:=d3.below b4;have hq4:=hq3.turn (uF:=T3) (w':=w3.alloc (.cells #[aa nx] 3)) fun g t ht _=>⟨ht,b4.block g (d3.low g t ht).2⟩;have y4:=hq4.c3;have z3:=hq3.c3;have IE:=abd (k:=nx) (i:=a) hq4.kids ha hkl H4 (fun e1=>by have h1:=hq3.jX _ e1;rw[d3.new eU] at h1;cases h1) (by have h1:=hU.size;have h2:=k3.size;have h3:=b4.size;omega);have neQ:some QB≠(Value.slice oq q.kids.length kq).ownBlock:=fun e1=>by have h1:=hq3.jX QB e1.symm;rw[hq3.tag] at h1;cases h1
 have lQ:=aD hq4.cells;have cQ:=hq4.cells;have HF:Hid (K2 DB MB (w2.alloc (.cells #[.string ⟨name.toArray⟩,.slice none 0 0,aa par,.slice none 0 0] 90)) w3):=k3;clear KE NE E0 hd2 H7 k3 tgo tgn;go_wp2_with(go_at_call 105;refine IE.mono ?_;rintro r w5 ⟨o5,k5,rfl,pQ,gr5,lc5⟩;have e5:=(gr5.block QB lQ neQ).trans cQ;have c5:=aA e5 3 _ rfl;have f5:=dF e5);have hL:(CU q.kids a (nx:Int)).length=q.kids.length+1:=a14 _ _ _ ha;rw[<- hL] at pQ;have hMp:gH M nx ⟨name,[],par,[]⟩ par=some q:=by unfold gH;rw[if_neg hpn];exact hq
 obtain⟨r1,r2,r3⟩:=d4.kids hMp (by simp only[if_neg hpn];exact hpq) hq4 (fun k hk=>by
  unfold CU at hk;rcases List.mem_append.1 hk with hk|hk
  ·exact(HD.out.wf par q hq).2 k (List.mem_of_mem_take hk)
  ·rcases List.mem_cons.1 hk with rfl|hk
   ·exact WalkArith.wf_i64 (by omega)
   ·exact(HD.out.wf par q hq).2 k (List.mem_of_mem_drop hk)) pQ gr5 (by rw[hL];exact lc5)
 rw[hL] at r1 r2 r3
 go_ret2
 refine⟨rfl,?_,_,_,fun x hx=>?_,r1⟩
 ·have hk:=HF.out;have ktu:KT tg w0 w3:=KT.trans (KT.of_below hU) (uF:=tg) (KT.aaI (HD.out.below hU) hk) (fun _ _=>rfl);exact ktu.trans (uF:=T3) (KT.trans (KT.of_below b4) r3 (fun _ _=>rfl)) HT3.out
 ·have h1:=hU.size;have h2:=HF.out.size;have h3:=b4.size;rw[r2 x (by omega)];exact HT3.out x hx
end
section
open Go.RowKit
set_option maxHeartbeats 4000000
set_option maxRecDepth 20000
theorem a0g {B:Nat}{tg:kE}{W:World}{DB MB:Nat}{p:Int->Option Nat}{M:Dm}{nx c:Nat}(hd:bG B tg W DB MB p M nx c)(n par:Int)(e q:iy)(hn:M n=some e)(hq:M par=some q)(hl:q.kids.length<=1000000):
  ak 109 #[aj DB,aa par,aa n] W fun r w'=>r=.returned (aa (if e.parent=par then(q.kids.length:Int)-1 else q.kids.length))/\w'=W:=by
 have hwn:=hd.i64 hn;have hwp:=hd.i64 hq;have d0:=hd.d0;obtain⟨EB,va,vk,hpn,he⟩:=hd.els n e hn;obtain⟨QB,qa,qk,hpq,heq⟩:=hd.els par q hq;obtain⟨oq,kq,rfl⟩:=aI heq.kids;have x2:=he.c2;have y3:=heq.c3;by_cases hp:e.parent=par
 ·have hp':(e.parent==par)=true:=by simp[hp]
  have hw:IntKind.i64.wrap ((q.kids.length:Int)-1)=(q.kids.length:Int)-1:=IntWalk.i64_in _ (by omega);rw[if_pos hp];go_enter func109,ntmps109;go_wp2_with(at_lookup;first|(refine a1A _ rfl _ _ 83 rfl underlying3 underlying83 (eG _) rfl hd.map par rfl hwp QB hpq ?_)|(refine a1A _ rfl _ _ 83 rfl underlying3 underlying83 (eG _) rfl hd.map n rfl hwn EB hpn ?_));go_ret;exact⟨rfl,rfl⟩
 ·have hp':(e.parent==par)=false:=by simp[hp]
  rw[if_neg hp];go_enter func109,ntmps109;go_wp2_with(at_lookup;first|(refine a1A _ rfl _ _ 83 rfl underlying3 underlying83 (eG _) rfl hd.map par rfl hwp QB hpq ?_)|(refine a1A _ rfl _ _ 83 rfl underlying3 underlying83 (eG _) rfl hd.map n rfl hwn EB hpn ?_));go_ret;exact⟨rfl,rfl⟩
theorem a1n {B:Nat}{tg:kE}{Wd:World}{DB MB:Nat}{p:Int->Option Nat}{M:Dm}{nx c:Nat}(hd:bG B tg Wd DB MB p M nx c)(lb:Array Value)(I:List (Int×Int)->World->Prop)(hI:∀done W,I done W->(∀b t,tg b=some t->W.heap[b]? =Wd.heap[b]?)/\Wd.heap.size<=W.heap.size)
  (hcall:∀done W i d,I done W->done.length<1000000->ak 158 (#[aa i,aa d]++lb) W fun e w'=>e=.returned (.tuple #[])/\I (done++[(i,d)]) w'):
  ∀(f:Nat) (n d:Int) (done:List (Int×Int)) (W:World),Dp M f n->dH n->0<=d->d+f<=1000000->done.length+(pre M f n d).length<=1000000->I done W->
  ak 155 #[aj DB,aa n,aa d,.func (.func 158) #[] lb] W fun e w'=>e=.returned (.tuple #[])/\I (done++pre M f n d) w'
 |0,_,_,_,_,hp,_,_,_,_,_=>hp.elim
 |f+1,n,d,done,W,hp,hn,hd0,hdf,hlen,hi=>by
  have IH:=a1n hd lb I hI hcall f;have hs:=hI done W hi;have hw:=hd.turn hs.1 hs.2;have d0:=hw.d0;cases hm:M n with
  |none=>
   have hpn:=hd.non n hm;have hpre:pre M (f+1) n d=[]:=by rw[pre,hm]
   rw[hpre,List.append_nil];go_enter func155,ntmps155;go_wp2_with(at_lookup;refine lY _ rfl _ _ 83 rfl underlying3 underlying83 (eG _) rfl hw.map n rfl hn hpn ?_);refine bodyPost_ret (v:=.tuple #[]) (by simp[results,results155]) rfl ⟨rfl,hi⟩
  |some e=>
   have hpre:pre M (f+1) n d=(n,d)::e.kids.flatMap (fun k=>pre M f k (d+1)):=by rw[pre,hm]
   rw[hpre] at hlen⊢;rw[List.length_cons] at hlen;obtain⟨b,va,vk,hpn,he⟩:=hd.els n e hm;have he1:=he.turn (uF:=tg) (w':=W) fun g t ht _=>⟨ht,hs.1 g t ht⟩;have HCL:=hcall done W n d hi (by omega);obtain⟨ov,kv,hvk⟩:=aI he.kids;have HKD:Hid (∀k∈e.kids,Dp M f k/\dH k):=(fun k hk=>⟨hp e hm k hk,(hd.wf n e hm).2 k hk⟩:∀k∈e.kids,Dp M f k/\dH k);have HHI:Hid (∀done W,I done W->(∀b t,tg b=some t->W.heap[b]? =Wd.heap[b]?)/\Wd.heap.size<=W.heap.size):=hI;have HIH:Hid (∀(n d:Int) (done:List (Int×Int)) (W:World),Dp M f n->dH n->0<=d->d+f<=1000000->done.length+(pre M f n d).length<=1000000->I done W->ak 155 #[aj DB,aa n,aa d,.func (.func 158) #[] lb] W fun e w'=>e=.returned (.tuple #[])/\I (done++pre M f n d) w'):=IH;have hkl:e.kids.length<=9223372036854775807:=ZG he.kids;clear hI IH hcall hi hp;go_enter func155,ntmps155;go_upto_region 3 with(first|(at_lookup;refine eY _ rfl _ _ 83 rfl underlying3 underlying83 (eG _) rfl hw.map n rfl hn b hpn ?_)|(go_at_call 158;refine HCL.mono ?_;rintro r w1 ⟨rfl,hi1⟩));subst hvk;have x3:=World.cell?_of_block ((HHI.out _ _ hi1).1 b _ he.tag)|>.trans he.c3
   have hd1:d<=999999:=by omega
   have HHE:Hid (yf B tg Wd n b e va (.slice ov e.kids.length kv)):=he;have HI1:Hid (I (done++[(n,d)]) w1):=hi1;clear he he1 hi1 hw d0 hs HCL;go_wp2_with fail
   go_loopw [32] (fun y wr=>∃k:Nat,k<=e.kids.length/\y=aa k/\I (done++((n,d)::(e.kids.take k).flatMap (fun i=>pre M f i (d+1)))) wr) (fun y _=>e.kids.length-(intOf y).toNat)
   case atStart=>exact⟨0,Nat.zero_le _,rfl,HI1.out⟩
   case round=>
    obtain⟨k,hk,rfl,hi2⟩:=hrel;by_cases hlt:k<e.kids.length
    ·have hlt':(k:Int)<(e.kids.length:Int):=by omega
     obtain⟨kid,hx, -⟩:=drop_at hlt;obtain⟨g,hg,hc⟩:=bJ HHE.out.kids k _ (wW hx);have hov:ov=some ⟨g,0,none⟩:=by
      obtain⟨o',cap',h1, -, -, -,h2⟩:=bA HHE.out.kids;cases h1;exact h2 g hg
     subst hov;have hcw:=World.cell?_of_block ((HHI.out _ _ hi2).1 g _ (HHE.out.jX g hg))|>.trans hc
     have hkd:=HKD.out kid (List.mem_of_getElem? hx);have htk:(e.kids.take (k+1)).flatMap (fun i=>pre M f i (d+1))=(e.kids.take k).flatMap (fun i=>pre M f i (d+1))++pre M f kid (d+1):=by
      rw[List.take_add_one,hx];simp
     have hle:=FJ (fun i=>pre M f i (d+1)) e.kids (k+1);rw[htk,List.length_append] at hle;have HC:=HIH.out kid (d+1) _ wr hkd.1 hkd.2 (by omega) (by omega) (by rw[List.length_append,List.length_cons];omega) hi2;rw[List.append_assoc,List.cons_append,<- htk] at HC;clear hi2 hc hg hx htk hle;go_wp2_with(go_at_call 155;refine HC.mono ?_;rintro r w2 ⟨rfl,hi3⟩)
     go_roundw
     case rel=>exact⟨k+1,by omega,by go_num,hi3⟩
     case measure=>simp[intOf];omega
    ·obtain rfl:k=e.kids.length:=by omega
     have hge:¬(e.kids.length:Int)<(e.kids.length:Int):=by omega
     rw[List.take_length] at hi2;go_wp2_with fail;refine bodyPost_end (results_none rfl _ _ _) rfl ⟨rfl,hi2⟩
def El (l:List (Int×Int)):Int:=l.foldl (fun m x=>max m x.2) 0
theorem a3q (l:List (Int×Int))(x:Int×Int):El (l++[x])=max (El l) x.2:=by
 unfold El;rw[List.foldl_append];rfl
def a9A (W:World)(done:List (Int×Int))(Wc:World):Prop:=Below W.heap.size W Wc/\Wc.heap[W.heap.size]? =some (.cells #[aa (El done)] 3)
theorem deepest (W:World)(done:List (Int×Int))(Wc:World)(i d:Int)(h:a9A W done Wc):
  ak 158 (#[aa i,aa d]++#[aj W.heap.size]) Wc fun e w'=>e=.returned (.tuple #[])/\a9A W (done++[(i,d)]) w':=by
 obtain⟨hb,hc⟩:=h;have c0:=aA hc 0 _ rfl;have f0:=dF hc 0;have HB:Hid (Below W.heap.size W Wc):=hb;have HC:Hid (Wc.heap[W.heap.size]? =some (.cells #[aa (El done)] 3)):=hc;clear hb;obtain⟨PL,hPL⟩:∃PL,W.heap.size=PL:=⟨_,rfl⟩;rw[hPL] at c0 f0 hc⊢;obtain⟨m,hm⟩:∃m,El done=m:=⟨_,rfl⟩;rw[hm] at c0 hc;show ak 158 #[aa i,aa d,aj PL] Wc _;go_enter func158,ntmps158;go_wp2_with fail;refine bodyPost_end (results_none rfl _ _ _) rfl ⟨rfl,?_,?_⟩
 ·have h7:=HB.out;rw[hPL] at h7⊢;exact h7.setCell eU _
 ·rw[hPL,heap_setCell_same Wc PL 0 _ _ _ hc,a3q,hm];simp
theorem a1E {B:Nat}{tg:kE}{W:World}{DB MB:Nat}{p:Int->Option Nat}{M:Dm}{nx c:Nat}(hd:bG B tg W DB MB p M nx c)(f:Nat)(n:Int)(hf:f<=900000)(hp:Dp M f n)(hn:dH n)(hl:(pre M f n 1).length<=1000000):
  ak 110 #[aj DB,aa n] W fun e w'=>e=.returned (aa (El (pre M f n 1)))/\Below W.heap.size W w':=by
 have HW:=a1n hd #[aj W.heap.size] (a9A W) (fun done Wc h=>⟨fun b t ht=>h.1.block b (hd.low b t ht).2,h.1.size⟩) (fun done Wc i d h _=>deepest W done Wc i d h) f n 1 [] (W.alloc (.cells #[aa 0] 3)) hp hn (by decide) (by omega) (by rw[List.length_nil];omega) ⟨aW W _,dh W _ _⟩;rw[List.nil_append] at HW;go_enter func110,ntmps110;go_wp2_with(go_at_call 155;refine HW.mono ?_;rintro e w1 ⟨rfl,h1⟩;obtain⟨hb1,hc1⟩:=h1;have c1:=aA hc1 0 _ rfl);go_ret;exact⟨rfl,hb1⟩
end
section
open Go.RowKit
set_option maxHeartbeats 2000000
theorem a3r {B:Nat}(W:World)(v:Value)(L:List Int)(x:Int)(h:W.ownsRow B 3 1 v L.length (bY L))(hl:L.length<=1000000):
  ak 157 #[v,aa x] W fun e w'=>w'=W/\∃i:Int,e=.returned (aa i)/\(0<=i↔x∈L):=by
 have hc:∀k y,L[k]? =some y->∃g,v.ownBlock=some g/\W.cell? (ag g k)=some (aa y):=fun k y hk=>bJ h k _ (wW hk);rcases h.2 with⟨rfl,hn⟩|⟨g,cap,cur,rfl,_,_,h1,h2,_,_⟩
 ·have hz:L=[]:=List.length_eq_zero_iff.1 hn;subst hz;go_enter func157,ntmps157;go_wp2_with fail
  go_loop [5,8] (fun _ i=>i=aa 0) (fun _ _=>0)
  case atStart=>rfl
  case round=>
   subst hrel;go_wp2_with fail;go_ret;exact⟨rfl, -1,rfl,by simp⟩
 ·have HC:Hid (∀(k:Nat) (y:Int),L[k]? =some y->W.cell? (ag g k)=some (aa y)):=(fun k y hk=>by
   obtain⟨g',hg,hk'⟩:=hc k y hk;cases hg;exact hk':∀(k:Nat) (y:Int),L[k]? =some y->W.cell? (ag g k)=some (aa y))
  clear hc h;go_enter func157,ntmps157;go_wp2_with fail
  go_loop [5,8] (fun _ i=>∃k:Nat,k<=L.length/\i=aa k/\Hid (∀j,j<k->L[j]?≠some x)) (fun _ i=>match i with| .int _ m=>L.length-m.toNat|_=>0)
  case atStart=>exact⟨0,Nat.zero_le _,rfl,(fun j hj=>absurd hj (Nat.not_lt_zero _):∀j,j<0->L[j]?≠some x)⟩
  case round=>
   obtain⟨k,hk,rfl,hne⟩:=hrel;by_cases hkl:k<L.length
   ·obtain⟨y,hy⟩:∃y,L[k]? =some y:=⟨_,List.getElem?_eq_getElem hkl⟩;have hcell:=HC.out k y hy;have hkl':(k:Int)<L.length:=by omega
    by_cases hxy:x=y
    ·subst hxy;go_wp2_with fail;go_ret;exact⟨rfl,k,rfl,⟨fun _=>List.mem_of_getElem? hy,fun _=>by omega⟩⟩
    ·have hxy':(x==y)=false:=by simp[hxy]
     go_wp2_with fail;refine⟨⟨k+1,by omega,rfl,(fun j hj=>?_:∀j,j<k+1->L[j]?≠some x)⟩,?_⟩
     ·by_cases e:j=k
      ·subst e;rw[hy];exact fun e=>hxy (by cases e;rfl)
      ·exact hne.out j (by omega)
     ·show L.length-((k:Int)+1).toNat<L.length-(k:Int).toNat;omega
   ·have hkl':¬(k:Int)<L.length:=by omega
    go_wp2_with fail;go_ret;refine⟨rfl, -1,rfl,⟨fun h=>by omega,fun hm=>?_⟩⟩;obtain⟨j,hj⟩:=List.getElem?_of_mem hm;exact absurd hj (hne.out j (by have:=(List.getElem?_eq_some_iff.1 hj).1;omega))
theorem DC {B:Nat}(W:World)(v:Value)(L:List Int)(x:Int)(h:W.ownsRow B 3 1 v L.length (bY L))(hl:L.length<=1000000):
  ak 108 #[v,aa x] W fun e w'=>w'=W/\e=.returned (.bool (decide (x∈L))):=by
 have HI:=a3r W v L x h hl;go_enter func108,ntmps108;go_wp2_with(go_at_call 157;refine HI.mono ?_;rintro e w1 ⟨rfl,i,rfl,hi⟩);go_ret;exact⟨rfl,rfl⟩
end
section
open Go.RowKit
set_option maxHeartbeats 4000000
set_option maxRecDepth 20000
theorem bG.par {B:Nat}{tg:kE}{w:World}{DB MB:Nat}{p:Int->Option Nat}{M:Dm}{nx c EB:Nat}{i:Int}{e:iy}{va vk:Value}(h:bG B tg w DB MB p M nx c)(hi:M i=some e)(hp:p i=some EB)(he:yf B tg w i EB e va vk)(par:Int)(hw:dH par):
  bG B tg (w.setCell ⟨EB,2,none⟩ (aa par)) DB MB p (gH M i ⟨e.name,e.ats,par,e.kids⟩) nx c/\KT tg w (w.setCell ⟨EB,2,none⟩ (aa par)):=by
 have hset:=(Below.refl EB w).setCell (p:=⟨EB,2,none⟩) eU (aa par);have blk:∀x,x≠EB->(w.setCell ⟨EB,2,none⟩ (aa par)).heap[x]? =w.heap[x]? :=fun x h1=>Below.heap_setCell _ _ _ x h1;have nea:∀g,va.ownBlock=some g->g≠EB:=fun g hg e1=>by have h1:=he.lI g hg;rw[e1,he.tag] at h1;cases h1
 have nek:∀g,vk.ownBlock=some g->g≠EB:=fun g hg e1=>by have h1:=he.jX g hg;rw[e1,he.tag] at h1;cases h1
 refine⟨h.put hi hp (va:=va) (vk:=vk) ⟨?_,he.tag,bS he.ats fun g hg=>blk g (nea g hg),he.lI,bS he.kids fun g hg=>blk g (nek g hg),he.jX⟩ hset.size ⟨hw,(h.wf i e hi).2⟩ (fun _ _=>rfl) ?_ ?_ ?_,⟨hset.os,hset.tape,hset.output,hset.size,fun x hx hn=>?_⟩⟩
 ·rw[heap_setCell_same w EB 2 _ _ _ he.cells];rfl
 ·intro x t ht;have:=h.low x t ht;have:=hset.size;omega
 ·intro x hx;exact .inl (h.new hx)
 ·intro x t ht h1 h2 h3;exact blk x (fun e1=>by rw[e1,he.tag] at ht;cases ht;exact h1 rfl)
 ·exact blk x (fun e1=>by rw[e1,he.tag] at hn;cases hn)
def IA (M:Dm)(n:Int)(e o:iy):Dm:=gH M e.parent ⟨o.name,o.ats,o.parent,woL o.kids n⟩
def a5F (M:Dm)(n par:Int)(a:Nat)(e o q:iy):Dm:=gH (gH (IA M n e o) n ⟨e.name,e.ats,par,e.kids⟩) par ⟨q.name,q.ats,q.parent,CU q.kids a n⟩
theorem a5U {B:Nat}{tg:kE}{W:World}{DB MB:Nat}{p:Int->Option Nat}{M:Dm}{nx c:Nat}(hd:bG B tg W DB MB p M nx c)(n par:Int)(a:Nat)(e o q0 q:iy)(hn:M n=some e)(hn0:n≠0)(ho:M e.parent=some o)(hok:o.kids≠[])(hen:e.parent≠n)(hq0:M par=some q0)(hq:IA M n e o par=some q)(hpn:par≠n)
  (f:Nat) (hf:f<=900000) (hp:Dp M f n) (hl:(pre M f n 1).length<=1000000) (hnot:par ∉ jm M f n) (hql:q0.kids.length<=1000000) (hal:(a:Int)<=if e.parent=par then(q0.kids.length:Int)-1 else q0.kids.length) (haq:a<=q.kids.length) (hqb:q.kids.length<=1000000)
  (d:Nat) (hu:Up M par d) (hdd:(d:Int)+El (pre M f n 1)<=10) (hdp:0<=El (pre M f n 1)) (hB:B<=W.heap.size):
  ak 59 #[aj DB,aa n,aa par,aa a] W fun r w'=>r=.returned .nilIface/\KT tg W w'/\∃uF,(∀x,x<W.heap.size->uF x=tg x)/\bG B uF w' DB MB p (a5F M n par a e o q) nx c:=by
 obtain⟨EB,va,vk,hpe,he⟩:=hd.els n e hn;obtain⟨QB,qa,qk,hpq,heq⟩:=hd.els par q0 hq0;have hwn:=hd.i64 hn;have hwp:=hd.i64 hq0;have d0:=hd.d0;have a5D:(n==0)=false:=by rw[beq_eq_false_iff_ne];exact hn0
 have hll:(jm M f n).length<=1000000:=by unfold jm;rw[List.length_map];exact hl
 have FD:=Vn hd f n hf hp hwn hll;have a5W:decide (par∈jm M f n)=false:=decide_eq_false hnot;have ha0:¬(a:Int)<0:=by omega
 have HD:Hid (bG B tg W DB MB p M nx c):=hd;obtain⟨ot,hot⟩:∃ot:Int,(if e.parent=par then(q0.kids.length:Int)-1 else q0.kids.length)=ot:=⟨_,rfl⟩;rw[hot] at hal;have alh:¬ot<(a:Int):=by omega
 obtain⟨mo,hmo⟩:∃mo:Int,El (pre M f n 1)=mo:=⟨_,rfl⟩;rw[hmo] at hdd hdp;have afb:IntKind.i64.wrap ((d:Int)+mo)=(d:Int)+mo:=IntWalk.i64_in _ (by omega);have a7a:¬(10:Int)<(d:Int)+mo:=by omega
 have HOT:Hid ((if e.parent=par then(q0.kids.length:Int)-1 else q0.kids.length)=ot):=hot;have HMO:Hid (El (pre M f n 1)=mo):=hmo;clear hot hmo;go_enter func59,ntmps59;go_upto_region 7 with(at_lookup;first|refine eY _ rfl _ _ 83 rfl underlying3 underlying83 (eG _) rfl hd.map n rfl hwn EB hpe ?_|refine eY _ rfl _ _ 83 rfl underlying3 underlying83 (eG _) rfl hd.map par rfl hwp QB hpq ?_);go_upto_region 9 with(first|(go_at_call 107;refine FD.mono ?_;rintro r w1 ⟨o1,k1,rfl,b1,Rh⟩;have CI:=DC w1 _ (jm M f n) par Rh hll)|(go_at_call 108;refine CI.mono ?_;rintro r w2 ⟨rfl,rfl⟩));have hd1:=HD.out.below b1;have OD:=a0g hd1 n par e q0 hn hq0 hql;rw[HOT.out] at OD;go_upto_region 11 with(go_at_call 109;refine OD.mono ?_;rintro r w3 ⟨rfl,rfl⟩);have DD:=VR hd1 par d hwp hu (by omega);go_upto_region 13 with(first|(go_at_call 103;refine DD.mono ?_;rintro r w4 ⟨rfl,b4⟩;have LD:=a1E (HD.out.below (az b1 b4)) f n hf hp hwn hl;rw[HMO.out] at LD)|(go_at_call 110;refine LD.mono ?_;rintro r w5 ⟨rfl,b5⟩));have hU:=az (az b1 b4) b5;have TO:=a19 (HD.out.below hU) n e o hn ho hok;go_upto_region 14 with(go_at_call 106;refine TO.mono ?_;rintro r w6 ⟨rfl,k6,T6,t6,d6⟩);have hM1:IA M n e o n=some e:=by unfold IA gH;rw[if_neg (fun h=>hen h.symm)];exact hn
 have d6:bG B T6 w6 DB MB p (IA M n e o) nx c:=d6;obtain⟨EB',va6,vk6,abk,he6⟩:=d6.els n e hM1;have hEE:EB'=EB:=by rw[hpe] at abk;cases abk;rfl
 subst hEE;obtain⟨d7,k7⟩:=d6.par hM1 hpe he6 par hwp;have f6:=dF he6.cells 2;have x6:=he6.c2;have hMq:gH (IA M n e o) n ⟨e.name,e.ats,par,e.kids⟩ par=some q:=by unfold gH;rw[if_neg hpn];exact hq
 have s7:w6.heap.size<=(w6.setCell ⟨EB',2,none⟩ (aa par)).heap.size:=k7.size;obtain⟨U,hU7⟩:∃U,w6.setCell ⟨EB',2,none⟩ (aa par)=U:=⟨_,rfl⟩;go_upto_region 15 with fail;rw[hU7] at d7 k7 s7;obtain⟨QB',qa7,qk7,abm,hq7⟩:=d7.els par q hMq;have hQQ:QB'=QB:=by rw[hpq] at abm;cases abm;rfl
 subst hQQ;obtain⟨oq,kq,rfl⟩:=aI hq7.kids;have b8:=aW U (.cells #[aa n] 3);have H8:=dh U #[aa n] 3;have d8:=d7.below b8;have hq8:=hq7.turn (uF:=T6) (w':=U.alloc (.cells #[aa n] 3)) fun g t ht _=>⟨ht,b8.block g (d7.low g t ht).2⟩;have y8:=hq8.c3;have z7:=hq7.c3;have IE:=abd (k:=n) (i:=a) hq8.kids haq hqb H8 (fun e1=>by have h1:=hq7.jX _ e1;rw[d7.new eU] at h1;cases h1) (by have h1:=hU.size;have h2:=k6.size;have h3:=b8.size;omega);have neQ:some QB'≠(Value.slice oq q.kids.length kq).ownBlock:=fun e1=>by have h1:=hq7.jX QB' e1.symm;rw[hq7.tag] at h1;cases h1
 have lQ:=aD hq8.cells;have cQ:=hq8.cells;have HK6:Hid (KT tg w5 w6):=k6;have HK7:Hid (KT T6 w6 U):=k7;have HT6:Hid (∀x,x<w5.heap.size->T6 x=tg x):=t6;clear hU7 k6 k7 t6 d6 TO;go_wp2_with(go_at_call 105;refine IE.mono ?_;rintro r w9 ⟨o9,k9,rfl,ow9,gr9,lc9⟩;have e9:=(gr9.block QB' lQ neQ).trans cQ;have c9:=aA e9 3 _ rfl;have f9:=dF e9);have hL:(CU q.kids a n).length=q.kids.length+1:=a14 _ _ _ haq;rw[<- hL] at ow9;obtain⟨r1,r2,r3⟩:=d8.kids hMq hpq hq8 (fun k hk=>by
  unfold CU at hk;rcases List.mem_append.1 hk with hk|hk
  ·exact(d7.wf par q hMq).2 k (List.mem_of_mem_take hk)
  ·rcases List.mem_cons.1 hk with rfl|hk
   ·exact hwn
   ·exact(d7.wf par q hMq).2 k (List.mem_of_mem_drop hk)) ow9 gr9 (by rw[hL];exact lc9)
 rw[hL] at r1 r2 r3;go_ret;have h6:=HK6.out;have h7:=HK7.out;refine⟨rfl,?_,_,fun x hx=>?_,r1⟩
 ·have ku:KT tg W w6:=KT.trans (KT.of_below hU) h6 (fun _ _=>rfl);have kv:KT tg W U:=ku.trans (uF:=T6) h7 (fun x hx=>HT6.out x (by have:=hU.size;omega));exact kv.trans (uF:=T6) (KT.trans (KT.of_below b8) r3 (fun _ _=>rfl)) (fun x hx=>HT6.out x (by have:=hU.size;omega))
 ·have h1:=hU.size;have h2:=h6.size;have h3:=h7.size;have h4:=b8.size;rw[r2 x (by omega)];exact HT6.out x (by omega)
end
section
open Go.RowKit
set_option maxHeartbeats 4000000
set_option maxRecDepth 20000
theorem a7b {E:Nat->Addr}{B:Nat}{tg:kE}{W:World}{DB MB:Nat}{p:Int->Option Nat}{M:Dm}{nx c:Nat}(hE:DE E W)(hd:bG B tg W DB MB p M nx c)(n par a:Int)(hwn:dH n)(hwp:dH par)(hn:M n=none)(hq:M par=none):
  ak 59 #[aj DB,aa n,aa par,aa a] W fun r w'=>r=.returned (eV (E 5))/\Below W.heap.size W w':=by
 have d0:=hd.d0;have ck:=hE.c5;unfold eV;have hpe:=hd.non n hn;have hpq:=hd.non par hq;go_enter func59,ntmps59;go_wp2_with(at_lookup;first|refine lY _ rfl _ _ 83 rfl underlying3 underlying83 (eG _) rfl hd.map n rfl hwn hpe ?_|refine lY _ rfl _ _ 83 rfl underlying3 underlying83 (eG _) rfl hd.map par rfl hwp hpq ?_);go_ret;exact⟨rfl,Below.refl _ _⟩
theorem a5X {E:Nat->Addr}{B:Nat}{tg:kE}{W:World}{DB MB:Nat}{p:Int->Option Nat}{M:Dm}{nx c:Nat}(hE:DE E W)(hd:bG B tg W DB MB p M nx c)(n par a:Int)(hwn:dH n)(hwp:dH par)(q:iy)(hn:M n=none)(hq:M par=some q):
  ak 59 #[aj DB,aa n,aa par,aa a] W fun r w'=>r=.returned (eV (E 5))/\Below W.heap.size W w':=by
 have d0:=hd.d0;have ck:=hE.c5;unfold eV;have hpe:=hd.non n hn;obtain⟨QB,qa,qk,hpq,heq⟩:=hd.els par q hq;go_enter func59,ntmps59;go_wp2_with(at_lookup;first|refine lY _ rfl _ _ 83 rfl underlying3 underlying83 (eG _) rfl hd.map n rfl hwn hpe ?_|refine eY _ rfl _ _ 83 rfl underlying3 underlying83 (eG _) rfl hd.map par rfl hwp QB hpq ?_);go_ret;exact⟨rfl,Below.refl _ _⟩
theorem a5Y {E:Nat->Addr}{B:Nat}{tg:kE}{W:World}{DB MB:Nat}{p:Int->Option Nat}{M:Dm}{nx c:Nat}(hE:DE E W)(hd:bG B tg W DB MB p M nx c)(n par a:Int)(hwn:dH n)(hwp:dH par)(e:iy)(hn:M n=some e)(hq:M par=none):
  ak 59 #[aj DB,aa n,aa par,aa a] W fun r w'=>r=.returned (eV (E 5))/\Below W.heap.size W w':=by
 have d0:=hd.d0;have ck:=hE.c5;unfold eV;obtain⟨EB,va,vk,hpe,he⟩:=hd.els n e hn;have hpq:=hd.non par hq;go_enter func59,ntmps59;go_wp2_with(at_lookup;first|refine eY _ rfl _ _ 83 rfl underlying3 underlying83 (eG _) rfl hd.map n rfl hwn EB hpe ?_|refine lY _ rfl _ _ 83 rfl underlying3 underlying83 (eG _) rfl hd.map par rfl hwp hpq ?_);go_ret;exact⟨rfl,Below.refl _ _⟩
theorem a5G {E:Nat->Addr}{B:Nat}{tg:kE}{W:World}{DB MB:Nat}{p:Int->Option Nat}{M:Dm}{nx c:Nat}(hE:DE E W)(hd:bG B tg W DB MB p M nx c)(n par a:Int)(hwn:dH n)(hwp:dH par)(e q:iy)(hn:M n=some e)(hq:M par=some q)(hn0:n=0):
  ak 59 #[aj DB,aa n,aa par,aa a] W fun r w'=>r=.returned (eV (E 3))/\Below W.heap.size W w':=by
 have d0:=hd.d0;have ck:=hE.c3;unfold eV;obtain⟨EB,va,vk,hpe,he⟩:=hd.els n e hn;obtain⟨QB,qa,qk,hpq,heq⟩:=hd.els par q hq;have a5D:(n==0)=true:=by rw[beq_iff_eq];exact hn0
 have HN0:Hid (n=0):=hn0;clear hn0;go_enter func59,ntmps59;go_wp2_with(at_lookup;first|refine eY _ rfl _ _ 83 rfl underlying3 underlying83 (eG _) rfl hd.map n rfl hwn EB hpe ?_|refine eY _ rfl _ _ 83 rfl underlying3 underlying83 (eG _) rfl hd.map par rfl hwp QB hpq ?_);go_ret;exact⟨rfl,Below.refl _ _⟩
theorem a3s {E:Nat->Addr}{B:Nat}{tg:kE}{W:World}{DB MB:Nat}{p:Int->Option Nat}{M:Dm}{nx c:Nat}(hE:DE E W)(hd:bG B tg W DB MB p M nx c)(n par a:Int)(e q:iy)(hn:M n=some e)(hq:M par=some q)(hn0:n≠0)(hwn:dH n)(hwp:dH par)(f:Nat)(hf:f<=900000)(hp:Dp M f n)(hl:(pre M f n 1).length<=1000000)(hin:par∈jm M f n):
  ak 59 #[aj DB,aa n,aa par,aa a] W fun r w'=>r=.returned (eV (E 9))/\Below W.heap.size W w':=by
 have d0:=hd.d0;have ck:=hE.c9;unfold eV;obtain⟨EB,va,vk,hpe,he⟩:=hd.els n e hn;obtain⟨QB,qa,qk,hpq,heq⟩:=hd.els par q hq;have a5D:(n==0)=false:=by rw[beq_eq_false_iff_ne];exact hn0
 have hll:(jm M f n).length<=1000000:=by unfold jm;rw[List.length_map];exact hl
 have FD:=Vn hd f n hf hp hwn hll;have HD:Hid (bG B tg W DB MB p M nx c):=hd;have HE:Hid (DE E W):=hE;have hin':decide (par∈jm M f n)=true:=decide_eq_true hin;go_enter func59,ntmps59;go_upto_region 7 with(at_lookup;first|refine eY _ rfl _ _ 83 rfl underlying3 underlying83 (eG _) rfl hd.map n rfl hwn EB hpe ?_|refine eY _ rfl _ _ 83 rfl underlying3 underlying83 (eG _) rfl hd.map par rfl hwp QB hpq ?_);go_wp2_with(first|(go_at_call 107;refine FD.mono ?_;rintro r w1 ⟨o1,k1,rfl,b1,Rh⟩;have CI:=DC w1 _ (jm M f n) par Rh hll;have ck1:=(HE.out.below b1 eU).c9)|(go_at_call 108;refine CI.mono ?_;rintro r w2 ⟨rfl,rfl⟩));go_ret;exact⟨rfl,b1⟩
theorem a5Z {E:Nat->Addr}{B:Nat}{tg:kE}{W:World}{DB MB:Nat}{p:Int->Option Nat}{M:Dm}{nx c:Nat}(hE:DE E W)(hd:bG B tg W DB MB p M nx c)(n par a:Int)(e q:iy)(hn:M n=some e)(hq:M par=some q)(hn0:n≠0)(hwn:dH n)(hwp:dH par)(f:Nat)(hf:f<=900000)(hp:Dp M f n)(hl:(pre M f n 1).length<=1000000)(hnot:par ∉ jm M f n)(ha:a<0):
  ak 59 #[aj DB,aa n,aa par,aa a] W fun r w'=>r=.returned (eV (E 2))/\Below W.heap.size W w':=by
 have d0:=hd.d0;have ck:=hE.c2;unfold eV;obtain⟨EB,va,vk,hpe,he⟩:=hd.els n e hn;obtain⟨QB,qa,qk,hpq,heq⟩:=hd.els par q hq;have a5D:(n==0)=false:=by rw[beq_eq_false_iff_ne];exact hn0
 have hll:(jm M f n).length<=1000000:=by unfold jm;rw[List.length_map];exact hl
 have FD:=Vn hd f n hf hp hwn hll;have HD:Hid (bG B tg W DB MB p M nx c):=hd;have HE:Hid (DE E W):=hE;have a5W:decide (par∈jm M f n)=false:=decide_eq_false hnot;go_enter func59,ntmps59;go_upto_region 7 with(at_lookup;first|refine eY _ rfl _ _ 83 rfl underlying3 underlying83 (eG _) rfl hd.map n rfl hwn EB hpe ?_|refine eY _ rfl _ _ 83 rfl underlying3 underlying83 (eG _) rfl hd.map par rfl hwp QB hpq ?_);go_wp2_with(first|(go_at_call 107;refine FD.mono ?_;rintro r w1 ⟨o1,k1,rfl,b1,Rh⟩;have CI:=DC w1 _ (jm M f n) par Rh hll;have ck1:=(HE.out.below b1 eU).c2)|(go_at_call 108;refine CI.mono ?_;rintro r w2 ⟨rfl,rfl⟩));go_ret;exact⟨rfl,b1⟩
theorem a3t {E:Nat->Addr}{B:Nat}{tg:kE}{W:World}{DB MB:Nat}{p:Int->Option Nat}{M:Dm}{nx c:Nat}(hE:DE E W)(hd:bG B tg W DB MB p M nx c)(n par a:Int)(e q:iy)(hn:M n=some e)(hq:M par=some q)(hn0:n≠0)(hwn:dH n)(hwp:dH par)(f:Nat)(hf:f<=900000)(hp:Dp M f n)(hl:(pre M f n 1).length<=1000000)(hnot:par ∉ jm M f n)(ha:¬a<0)(hql:q.kids.length<=1000000)(hal:(if e.parent=par then(q.kids.length:Int)-1 else q.kids.length)<a):
  ak 59 #[aj DB,aa n,aa par,aa a] W fun r w'=>r=.returned (eV (E 2))/\Below W.heap.size W w':=by
 have d0:=hd.d0;have ck:=hE.c2;unfold eV;obtain⟨EB,va,vk,hpe,he⟩:=hd.els n e hn;obtain⟨QB,qa,qk,hpq,heq⟩:=hd.els par q hq;have a5D:(n==0)=false:=by rw[beq_eq_false_iff_ne];exact hn0
 have hll:(jm M f n).length<=1000000:=by unfold jm;rw[List.length_map];exact hl
 have FD:=Vn hd f n hf hp hwn hll;have HD:Hid (bG B tg W DB MB p M nx c):=hd;have HE:Hid (DE E W):=hE;have a5W:decide (par∈jm M f n)=false:=decide_eq_false hnot;obtain⟨ot,hot⟩:∃ot:Int,(if e.parent=par then(q.kids.length:Int)-1 else q.kids.length)=ot:=⟨_,rfl⟩;rw[hot] at hal;have HOT:Hid ((if e.parent=par then(q.kids.length:Int)-1 else q.kids.length)=ot):=hot;clear hot;go_enter func59,ntmps59;go_upto_region 7 with(at_lookup;first|refine eY _ rfl _ _ 83 rfl underlying3 underlying83 (eG _) rfl hd.map n rfl hwn EB hpe ?_|refine eY _ rfl _ _ 83 rfl underlying3 underlying83 (eG _) rfl hd.map par rfl hwp QB hpq ?_);go_upto_region 9 with(first|(go_at_call 107;refine FD.mono ?_;rintro r w1 ⟨o1,k1,rfl,b1,Rh⟩;have CI:=DC w1 _ (jm M f n) par Rh hll;have ck1:=(HE.out.below b1 eU).c2)|(go_at_call 108;refine CI.mono ?_;rintro r w2 ⟨rfl,rfl⟩));have OD:=a0g (HD.out.below b1) n par e q hn hq hql;rw[HOT.out] at OD;go_wp2_with(go_at_call 109;refine OD.mono ?_;rintro r w3 ⟨rfl,rfl⟩);go_ret;exact⟨rfl,b1⟩
theorem a5H {E:Nat->Addr}{B:Nat}{tg:kE}{W:World}{DB MB:Nat}{p:Int->Option Nat}{M:Dm}{nx c:Nat}(hE:DE E W)(hd:bG B tg W DB MB p M nx c)(n par a:Int)(e q:iy)(hn:M n=some e)(hq:M par=some q)(hn0:n≠0)(hwn:dH n)(hwp:dH par)(f:Nat)(hf:f<=900000)(hp:Dp M f n)(hl:(pre M f n 1).length<=1000000)(hnot:par ∉ jm M f n)(ha:¬a<0)(hql:q.kids.length<=1000000)(hal:¬(if e.parent=par then(q.kids.length:Int)-1 else q.kids.length)<a)(d:Nat)(hu:Up M par d)(a7a:d<=10)(hdd:10<(d:Int)+El (pre M f n 1))(hmb:El (pre M f n 1)<=1000000):
  ak 59 #[aj DB,aa n,aa par,aa a] W fun r w'=>r=.returned (eV (E 8))/\Below W.heap.size W w':=by
 have d0:=hd.d0;have ck:=hE.c8;unfold eV;obtain⟨EB,va,vk,hpe,he⟩:=hd.els n e hn;obtain⟨QB,qa,qk,hpq,heq⟩:=hd.els par q hq;have a5D:(n==0)=false:=by rw[beq_eq_false_iff_ne];exact hn0
 have hll:(jm M f n).length<=1000000:=by unfold jm;rw[List.length_map];exact hl
 have FD:=Vn hd f n hf hp hwn hll;have HD:Hid (bG B tg W DB MB p M nx c):=hd;have HE:Hid (DE E W):=hE;have a5W:decide (par∈jm M f n)=false:=decide_eq_false hnot;obtain⟨ot,hot⟩:∃ot:Int,(if e.parent=par then(q.kids.length:Int)-1 else q.kids.length)=ot:=⟨_,rfl⟩;rw[hot] at hal;have HOT:Hid ((if e.parent=par then(q.kids.length:Int)-1 else q.kids.length)=ot):=hot;clear hot;obtain⟨mo,hmo⟩:∃mo:Int,El (pre M f n 1)=mo:=⟨_,rfl⟩;rw[hmo] at hdd hmb;have afb:IntKind.i64.wrap ((d:Int)+mo)=(d:Int)+mo:=IntWalk.i64_in _ (by omega);have HMO:Hid (El (pre M f n 1)=mo):=hmo;clear hmo;go_enter func59,ntmps59;go_upto_region 7 with(at_lookup;first|refine eY _ rfl _ _ 83 rfl underlying3 underlying83 (eG _) rfl hd.map n rfl hwn EB hpe ?_|refine eY _ rfl _ _ 83 rfl underlying3 underlying83 (eG _) rfl hd.map par rfl hwp QB hpq ?_);go_upto_region 9 with(first|(go_at_call 107;refine FD.mono ?_;rintro r w1 ⟨o1,k1,rfl,b1,Rh⟩;have CI:=DC w1 _ (jm M f n) par Rh hll;have ck1:=(HE.out.below b1 eU).c8)|(go_at_call 108;refine CI.mono ?_;rintro r w2 ⟨rfl,rfl⟩));have OD:=a0g (HD.out.below b1) n par e q hn hq hql;rw[HOT.out] at OD;go_upto_region 11 with(go_at_call 109;refine OD.mono ?_;rintro r w3 ⟨rfl,rfl⟩);have DD:=VR (HD.out.below b1) par d hwp hu (by omega);go_wp2_with(first|(go_at_call 103;refine DD.mono ?_;rintro r w4 ⟨rfl,b4⟩;have LD:=a1E (HD.out.below (az b1 b4)) f n hf hp hwn hl;rw[HMO.out] at LD)|(go_at_call 110;refine LD.mono ?_;rintro r w5 ⟨rfl,b5⟩;have ck5:=(HE.out.below (az (az b1 b4) b5) eU).c8));go_ret;exact⟨rfl,az (az b1 b4) b5⟩
end
section
open Go.RowKit
set_option maxHeartbeats 4000000
set_option maxRecDepth 20000
theorem a9B {E:Nat->Addr}{B:Nat}{tg:kE}{W:World}{DB MB:Nat}{p:Int->Option Nat}{M:Dm}{nx c:Nat}(hE:DE E W)(hd:bG B tg W DB MB p M nx c)(par a:Int)(name:Bs)(hwp:dH par)(hq:M par=none):
  ak 57 #[aj DB,aa par,aa a,.string ⟨name.toArray⟩] W fun r w'=>r=.returned (.tuple #[aa 0,eV (E 5)])/\Below W.heap.size W w':=by
 have d0:=hd.d0;have ck:=hE.c5;have HD:Hid (bG B tg W DB MB p M nx c):=hd;have HE:Hid (DE E W):=hE;unfold eV;have hpq:=hd.non par hq;go_enter func57,ntmps57;go_upto_region 3 with(at_lookup;refine lY _ rfl _ _ 83 rfl underlying3 underlying83 (eG _) rfl hd.map par rfl hwp hpq ?_);go_region;go_wp2_with fail
 go_ret2
 exact⟨rfl,rfl,rfl,rfl,Nat.le_refl _,fun _ _=>rfl⟩
theorem a7c {E:Nat->Addr}{B:Nat}{tg:kE}{W:World}{DB MB:Nat}{p:Int->Option Nat}{M:Dm}{nx c:Nat}(hE:DE E W)(hd:bG B tg W DB MB p M nx c)(par a:Int)(name:Bs)(hwp:dH par)(q:iy)(hq:M par=some q)(hkl:q.kids.length<=1000000)(ha:a<0):
  ak 57 #[aj DB,aa par,aa a,.string ⟨name.toArray⟩] W fun r w'=>r=.returned (.tuple #[aa 0,eV (E 2)])/\Below W.heap.size W w':=by
 have d0:=hd.d0;have ck:=hE.c2;have HD:Hid (bG B tg W DB MB p M nx c):=hd;have HE:Hid (DE E W):=hE;unfold eV;obtain⟨QB,qa,qk,hpq,hq1⟩:=hd.els par q hq;obtain⟨oq,kq,rfl⟩:=aI hq1.kids;have y3:=hq1.c3;have hkl':(q.kids.length:Int)<=1000000:=by omega
 go_enter func57,ntmps57;go_upto_region 5 with(at_lookup;refine eY _ rfl _ _ 83 rfl underlying3 underlying83 (eG _) rfl hd.map par rfl hwp QB hpq ?_);go_region;go_wp2_with fail
 go_ret2
 exact⟨rfl,rfl,rfl,rfl,Nat.le_refl _,fun _ _=>rfl⟩
theorem a5I {E:Nat->Addr}{B:Nat}{tg:kE}{W:World}{DB MB:Nat}{p:Int->Option Nat}{M:Dm}{nx c:Nat}(hE:DE E W)(hd:bG B tg W DB MB p M nx c)(par a:Int)(name:Bs)(hwp:dH par)(q:iy)(hq:M par=some q)(hkl:q.kids.length<=1000000)(ha:¬a<0)(hal:(q.kids.length:Int)<a):
  ak 57 #[aj DB,aa par,aa a,.string ⟨name.toArray⟩] W fun r w'=>r=.returned (.tuple #[aa 0,eV (E 2)])/\Below W.heap.size W w':=by
 have d0:=hd.d0;have ck:=hE.c2;have HD:Hid (bG B tg W DB MB p M nx c):=hd;have HE:Hid (DE E W):=hE;unfold eV;obtain⟨QB,qa,qk,hpq,hq1⟩:=hd.els par q hq;obtain⟨oq,kq,rfl⟩:=aI hq1.kids;have y3:=hq1.c3;have hkl':(q.kids.length:Int)<=1000000:=by omega
 go_enter func57,ntmps57;go_upto_region 5 with(at_lookup;refine eY _ rfl _ _ 83 rfl underlying3 underlying83 (eG _) rfl hd.map par rfl hwp QB hpq ?_);go_region;go_wp2_with fail
 go_ret2
 exact⟨rfl,rfl,rfl,rfl,Nat.le_refl _,fun _ _=>rfl⟩
theorem a6a {E:Nat->Addr}{B:Nat}{tg:kE}{W:World}{DB MB:Nat}{p:Int->Option Nat}{M:Dm}{nx c:Nat}(hE:DE E W)(hd:bG B tg W DB MB p M nx c)(par a:Int)(name:Bs)(hwp:dH par)(q:iy)(hq:M par=some q)(hkl:q.kids.length<=1000000)(ha:¬a<0)(hal:¬(q.kids.length:Int)<a)(hnm:fo name=true)(d:Nat)(hu:Up M par d)(hdb:d<=1000000)(hdl:10<=d):
  ak 57 #[aj DB,aa par,aa a,.string ⟨name.toArray⟩] W fun r w'=>r=.returned (.tuple #[aa 0,eV (E 8)])/\Below W.heap.size W w':=by
 have d0:=hd.d0;have ck:=hE.c8;have HD:Hid (bG B tg W DB MB p M nx c):=hd;have HE:Hid (DE E W):=hE;unfold eV;obtain⟨QB,qa,qk,hpq,hq1⟩:=hd.els par q hq;obtain⟨oq,kq,rfl⟩:=aI hq1.kids;have y3:=hq1.c3;have hkl':(q.kids.length:Int)<=1000000:=by omega
 have IN:=fun w=>kZ ⟨name.toArray⟩ (by rw[fD];have:=Aq hnm;omega) w;have hin:fo (⟨name.toArray⟩:ByteArray).data.toList=true:=by simpa using hnm
 rw[hin] at IN;have DD:=VR hd par d hwp hu (by omega);have a7a:(10:Int)<=(d:Int):=by omega
 go_enter func57,ntmps57;go_upto_region 9 with(first|(at_lookup;refine eY _ rfl _ _ 83 rfl underlying3 underlying83 (eG _) rfl hd.map par rfl hwp QB hpq ?_)|(go_at_call 102;refine(IN _).mono ?_;rintro r w0 ⟨rfl,rfl⟩)|(go_at_call 103;refine DD.mono ?_;rintro r w1 ⟨rfl,b1⟩;have CT:=a13 (HD.out.below b1);have ck1:=(HE.out.below b1 eU).c8)|(go_at_call 104;refine CT.mono ?_;rintro r w2 ⟨rfl,rfl⟩));go_region;go_wp2_with fail
 go_ret2
 exact⟨rfl,b1.os,b1.tape,b1.output,b1.size,b1.block⟩
theorem a6b {E:Nat->Addr}{B:Nat}{tg:kE}{W:World}{DB MB:Nat}{p:Int->Option Nat}{M:Dm}{nx c:Nat}(hE:DE E W)(hd:bG B tg W DB MB p M nx c)(par a:Int)(name:Bs)(hwp:dH par)(q:iy)(hq:M par=some q)(hkl:q.kids.length<=1000000)(ha:¬a<0)(hal:¬(q.kids.length:Int)<a)(hnm:fo name=true)(d:Nat)(hu:Up M par d)(hdb:d<=1000000)(hdl:d<10)(hc:100<=c):
  ak 57 #[aj DB,aa par,aa a,.string ⟨name.toArray⟩] W fun r w'=>r=.returned (.tuple #[aa 0,eV (E 7)])/\Below W.heap.size W w':=by
 have d0:=hd.d0;have ck:=hE.c7;have HD:Hid (bG B tg W DB MB p M nx c):=hd;have HE:Hid (DE E W):=hE;unfold eV;obtain⟨QB,qa,qk,hpq,hq1⟩:=hd.els par q hq;obtain⟨oq,kq,rfl⟩:=aI hq1.kids;have y3:=hq1.c3;have hkl':(q.kids.length:Int)<=1000000:=by omega
 have IN:=fun w=>kZ ⟨name.toArray⟩ (by rw[fD];have:=Aq hnm;omega) w;have hin:fo (⟨name.toArray⟩:ByteArray).data.toList=true:=by simpa using hnm
 rw[hin] at IN;have DD:=VR hd par d hwp hu (by omega);have a7a:¬(10:Int)<=(d:Int):=by omega
 have abf:(100:Int)<=(c:Int):=by omega
 go_enter func57,ntmps57;go_upto_region 11 with(first|(at_lookup;refine eY _ rfl _ _ 83 rfl underlying3 underlying83 (eG _) rfl hd.map par rfl hwp QB hpq ?_)|(go_at_call 102;refine(IN _).mono ?_;rintro r w0 ⟨rfl,rfl⟩)|(go_at_call 103;refine DD.mono ?_;rintro r w1 ⟨rfl,b1⟩;have CT:=a13 (HD.out.below b1);have ck1:=(HE.out.below b1 eU).c7)|(go_at_call 104;refine CT.mono ?_;rintro r w2 ⟨rfl,rfl⟩));go_region;go_wp2_with fail
 go_ret2
 exact⟨rfl,b1.os,b1.tape,b1.output,b1.size,b1.block⟩
theorem a1U {E:Nat->Addr}{B:Nat}{tg:kE}{W:World}{DB MB:Nat}{p:Int->Option Nat}{M:Dm}{nx c:Nat}(hE:DE E W)(hd:bG B tg W DB MB p M nx c)(n:Int)(hwn:dH n)(hn:M n=none):
  ak 58 #[aj DB,aa n] W fun r w'=>r=.returned (eV (E 5))/\w'=W:=by
 have hpn:=hd.non n hn;have d0:=hd.d0;have c5:=hE.c5;unfold eV;go_enter func58,ntmps58;go_wp2_with(at_lookup;refine lY _ rfl _ _ 83 rfl underlying3 underlying83 (eG _) rfl hd.map n rfl hwn hpn ?_);go_ret;exact⟨rfl,rfl⟩
end
section
open Go.RowKit
set_option maxHeartbeats 2000000
theorem tJ {B B':Nat}(W:World)(o o':Option Addr)(k k':Nat)(L:List Int)(h:W.ownsRow B 3 1 (.slice o L.length k) L.length (bY L))(h':W.ownsRow B' 3 1 (.slice o' L.length k') L.length (bY L))(hl:L.length<=1000000):
  ak 18 #[.slice o L.length k,.slice o' L.length k'] W fun e w'=>e=.returned (.bool true)/\Below W.heap.size W w':=by
 have HR:Hid (W.ownsRow B 3 1 (.slice o L.length k) L.length (bY L)):=h;have HR':Hid (W.ownsRow B' 3 1 (.slice o' L.length k') L.length (bY L)):=h';clear h h';go_enter func18,ntmps18;go_wp2_with fail
 go_loopw [5] (fun y wr=>∃i:Nat,i<=L.length/\y=aa i/\Below W.heap.size W wr) (fun y _=>L.length-(intOf y).toNat)
 case atStart=>exact⟨0,Nat.zero_le _,rfl,Below.refl _ _⟩
 case round=>
  obtain⟨i,hi,rfl,hb⟩:=hrel;by_cases hil:i<L.length
  ·obtain⟨y,hy⟩:∃y,L[i]? =some y:=⟨_,List.getElem?_eq_getElem hil⟩;obtain⟨g,hg,hc⟩:=bJ (aK HR.out hb) i _ (wW hy);obtain⟨g',hg',hc'⟩:=bJ (aK HR'.out hb) i _ (wW hy);have ho:o=some ⟨g,0,none⟩:=by
    rcases HR.out.2 with⟨_,e1⟩|⟨g1,cap,cur,e1,_⟩
    ·omega
    ·cases e1;cases hg;rfl
   have ho':o'=some ⟨g',0,none⟩:=by
    rcases HR'.out.2 with⟨_,e1⟩|⟨g1,cap,cur,e1,_⟩
    ·omega
    ·cases e1;cases hg';rfl
   subst ho ho';have a3c:(i:Int)<L.length:=by omega
   clear hg hg';go_wp2_with fail;go_region;go_wp2_with fail
   go_roundw
   case rel=>exact⟨i+1,by omega,by go_num,lX 1 hb⟩
   case measure=>simp[intOf];omega
  ·have a3c:¬(i:Int)<L.length:=by omega
   go_wp2_with fail;go_ret;exact⟨rfl,hb⟩
theorem G9:∀(K l:List Int),K.Nodup->(∀x∈K,x∈l)->K.length<=l.length
 |[],_,_,_=>Nat.zero_le _
 |k::K,l,h,hs=>by
  have h1:=List.nodup_cons.1 h;have hk:=hs k (by simp);have h2:=G9 K (l.erase k) h1.2 (fun x hx=>(List.mem_erase_of_ne (fun e=>h1.1 (by rw[<- e];exact hx))).2 (hs x (by simp[hx])));rw[List.length_erase_of_mem hk] at h2;have:=List.length_pos_of_mem hk;rw[List.length_cons];omega
end
section
open Go.RowKit
section
variable {B:Nat}{tg:kE}{w w':World}{DB MB:Nat}{p:Int->Option Nat}{M:Dm}{nx c:Nat}
theorem bG.a7C (h:bG B tg w DB MB p M nx c){k:Int}(hk0:0<=k)(hk1:k<nx){b:Nat}{e:iy}{va vk:Value}(hn:Vd B tg w b e va vk)(hw:dH e.parent/\∀k∈e.kids,dH k)
  (hm:iA prog 3 w' MB (fun i=>if i=k then some b else p i) nx (c+1))
  (hs:∀x,x≠MB->w'.heap[x]? =w.heap[x]?) (hz:w.heap.size<=w'.heap.size):bG B (lJ tg k b va vk) w' DB MB (fun i=>if i=k then some b else p i) (gH M k e) nx (c+1):=by
 have old:∀x t,tg x=some t->lJ tg k b va vk x=some t:=fun x t ht=>Ji ht hn.tag (fun g hg=>(hn.lI g hg).1) (fun g hg=>(hn.jX g hg).1);have ne:∀x t,tg x=some t->t≠.map->x≠MB:=fun x t ht h2 e=>h2 (Option.some.inj (ht.symm.trans (e▸h.kF)));have nne:∀x,tg x=none->x≠MB:=fun x hx e=>(by rw[e,h.kF] at hx;exact absurd hx (by simp));refine⟨(hs DB (ne _ _ h.jP (by simp))).trans h.doc,old _ _ h.jP,hm,old _ _ h.kF,fun i f hf=>?_,fun i hi=>?_,fun x t ht=>?_,fun i f hf=>?_,fun i f hf=>?_,h.few,fun x j hj=>?_⟩
 ·unfold gH at hf;by_cases hi:i=k
  ·rw[if_pos hi] at hf;cases hf;subst hi;refine⟨b,va,vk,by simp,⟨(hs b (nne b hn.tag)).trans hn.cells,by unfold lJ;rw[if_pos rfl],bS hn.ats fun g hg=>?_,fun g hg=>?_,bS hn.kids fun g hg=>?_,fun g hg=>?_⟩⟩
   ·exact hs g (nne g (hn.lI g hg).1)
   ·unfold lJ;rw[if_neg (hn.lI g hg).2,if_pos hg]
   ·exact hs g (nne g (hn.jX g hg).1)
   ·unfold lJ;rw[if_neg (hn.jX g hg).2.1,if_neg (hn.jX g hg).2.2,if_pos hg]
  ·rw[if_neg hi] at hf;obtain⟨b',va',vk',h1,h2⟩:=h.els i f hf;refine⟨b',va',vk',by simp only[if_neg hi];exact h1,h2.turn fun g t ht hk=>⟨old g t ht,?_⟩⟩;exact hs g (ne g t ht (by rcases hk with rfl|rfl|rfl<;>simp))
 ·unfold gH at hi;by_cases hj:i=k
  ·rw[if_pos hj] at hi;cases hi
  ·rw[if_neg hj] at hi;simp only[if_neg hj];exact h.non i hi
 ·unfold lJ at ht;split at ht
  ·rename_i e;subst e;exact⟨hn.low,Nat.lt_of_lt_of_le (aD hn.cells) hz⟩
  ·split at ht
   ·rename_i e;have:=hn.ats.lt x e;omega
   ·split at ht
    ·rename_i e;have:=hn.kids.lt x e;omega
    ·have:=h.low x t ht;omega
 ·unfold gH at hf;by_cases hi:i=k
  ·omega
  ·rw[if_neg hi] at hf;exact h.dom i f hf
 ·unfold gH at hf;by_cases hi:i=k
  ·rw[if_pos hi] at hf;cases hf;exact hw
  ·rw[if_neg hi] at hf;exact h.wf i f hf
 ·unfold lJ at hj;split at hj
  ·have:k=j:=by simpa using hj
   omega
  ·split at hj
   ·have:k=j:=by simpa using hj
    omega
   ·split at hj
    ·have:k=j:=by simpa using hj
     omega
    ·exact h.Tu x j hj
end
def nM (M:Dm)(left:Lit->Bool):Dm:=fun i=>if left (.int .i64 i) then none else M i
theorem MX {M:Dm}{left:Lit->Bool}{k:Int}{e:iy}(hk:M k=some e):nM M (fun z=>left z && !z.sameKey (.int .i64 k))=gH (nM M left) k e:=by
 funext i;unfold nM gH;by_cases h:i=k
 ·subst h;simp[Lit.sameKey,hk]
 ·have:(Lit.int .i64 i).sameKey (.int .i64 k)=false:=by simp[Lit.sameKey,h]
  simp[this,h]
theorem Cd.put {M:Dm}{c:Nat}(h:Cd M c){k:Int}(hk:M k=none)(e:iy):Cd (gH M k e) (c+1):=by
 obtain⟨l,h1,h2,h3⟩:=h;refine⟨k::l,List.nodup_cons.2 ⟨fun hm=>(h3 k).1 hm hk,h1⟩,by simp[h2],fun x=>?_⟩;unfold gH;by_cases hx:x=k
 ·subst hx;simp
 ·rw[if_neg hx,<- h3 x];simp[hx]
theorem Cd.uniq {M:Dm}{c d:Nat}(h:Cd M c)(k:Cd M d):c=d:=by
 obtain⟨l,h1,rfl,h3⟩:=h;obtain⟨m,k1,rfl,k3⟩:=k;exact List.Perm.length_eq ((List.perm_ext_iff_of_nodup h1 k1).2 fun x=>(h3 x).trans (k3 x).symm)
theorem Cd.a3A {M L:Dm}{c d:Nat}(h:Cd L c)(k:Cd M d)(hs:∀i f,L i=some f->∃g,M i=some g){x:Int}(hx:L x=none)(hm:∃e,M x=some e):c+1<=d:=by
 obtain⟨l,h1,rfl,h3⟩:=h;obtain⟨m,k1,rfl,k3⟩:=k;have hn:x ∉ l:=fun hl=>(h3 x).1 hl hx;refine G9 (x::l) m (List.nodup_cons.2 ⟨hn,h1⟩) fun y hy=>(k3 y).2 ?_;rcases List.mem_cons.1 hy with rfl|hy
 ·obtain⟨e,he⟩:=hm;rw[he];simp
 ·cases hf:L y with
  |none=>exact absurd hf ((h3 y).1 hy)
  |some f=>obtain⟨g,hg⟩:=hs y f hf;rw[hg];simp
end
end Go.Proofs.YtjfiehbcamfdfaaGreatDoor

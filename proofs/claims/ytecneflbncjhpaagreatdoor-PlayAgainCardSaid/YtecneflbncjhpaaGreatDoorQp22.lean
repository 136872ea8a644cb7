/- Parts of the proof. -/
import Derived.Test.YtecneflbncjhpaaGreatDoorQp21
import Derived.Test.YtecneflbncjhpaaGreatDoorQp17
namespace Go.Proofs.YtecneflbncjhpaaGreatDoor
open Go.Proofs.Tryz
set_option maxHeartbeats 4000000
section
open Go.RowKit Go.Extern.Stop Go.Stop Go.Extern
abbrev eV (a:Addr):ah:=.iface 401 (.pointer (some a))
def LP:Array ah->Sem ah:=Extern.ReflectliteType.method fun t=>do Rtype.noPackHeld "Comparable" t;pure (.bool (<- typeInfo t).comparable)
theorem lG (w:ag):(LP #[.agg #[hS]]).run prog w=.ok (.bool true) w:=by kernel_rfl
theorem iW (v:ah)(w:ag):(Go.method 534 235 v "Comparable").run prog w=.ok (340,v) w:=by kernel_rfl
theorem Im:(prog.info? 401).map (·.comparable)=some true:=by kernel_rfl
theorem Io:(prog.info? 403).map (·.size)=some 1:=by kernel_rfl
theorem a4c (v:ah)(xT:TypeId)(w:ag):(Instr.typeAssert (.iface 401 v) xT 245 true).run prog w=.ok (.tuple #[.nilIface,.bool false]) w:=run_typeAssert_lacksB underlying245 (by kernel_rfl) (by kernel_rfl) v xT w
theorem a4d (v:ah)(xT:TypeId)(w:ag):(Instr.typeAssert (.iface 90 v) xT 245 true).run prog w=.ok (.tuple #[.nilIface,.bool false]) w:=run_typeAssert_lacksB underlying245 (by kernel_rfl) (by kernel_rfl) v xT w
theorem CO (v:ah)(xT:TypeId)(w:ag):(Instr.typeAssert (.iface 90 v) xT 242 true).run prog w=.ok (.tuple #[.iface 90 v,.bool true]) w:=run_typeAssert_hasB underlying242 (by kernel_rfl) v xT w
theorem wU (v:ah)(w:ag):(Go.method 534 90 v "Unwrap").run prog w=.ok (332,v) w:=by kernel_rfl
theorem Rb (a:Addr)(w:ag):
  au 56 #[eV a,eV a] w fun e w'=>e=.returned (.bool true)/\w'=w:=by
 obtain⟨i,hi,hcmp⟩:=Option.map_eq_some_iff.1 Im;obtain⟨j,hj,hjs⟩:=Option.map_eq_some_iff.1 Io;have h8:=@run_callFunc_extern prog 100 _ Extern.ReflectliteType.typeOf func100 (by kernel_rfl) (by kernel_rfl) (by kernel_rfl) (by kernel_rfl);have h32:=@run_callFunc_extern prog 340 _ LP func340 (by kernel_rfl) (by kernel_rfl) (by kernel_rfl) (by kernel_rfl);have tT:=wo;have cT:=lG;have mR:=iW;have heq:=run_eql_iface_ptr_same (P:=prog) w a underlying26 underlying401 hi hcmp hj;simp only[hS] at*;go_enter func56,ntmps56;go_wp2;refine wp_loop_rounds 1 ?_;rw[rounds_succ];go_wp2;go_ret;exact⟨rfl,rfl⟩
theorem LQ (a b:Addr)(ca cb:Array ah)(ta tb:TypeId)(w:ag)(hne:a≠b)(ha:w.heap[a.block]? =some (.cells ca ta (0,0)))(hb:w.heap[b.block]? =some (.cells cb tb (0,0))):
  au 56 #[eV a,eV b] w fun e w'=>e=.returned (.bool false)/\w'=w:=by
 obtain⟨i,hi,hcmp⟩:=Option.map_eq_some_iff.1 Im;obtain⟨j,hj,hjs⟩:=Option.map_eq_some_iff.1 Io;have h8:=@run_callFunc_extern prog 100 _ Extern.ReflectliteType.typeOf func100 (by kernel_rfl) (by kernel_rfl) (by kernel_rfl) (by kernel_rfl);have h32:=@run_callFunc_extern prog 340 _ LP func340 (by kernel_rfl) (by kernel_rfl) (by kernel_rfl) (by kernel_rfl);have tT:=wo;have cT:=lG;have mR:=iW;have nE:=a4c;have uE:=xC;have vE:=uS;have heq:=run_eql_iface_ptr_other (P:=prog) w underlying26 underlying401 hi hcmp hj (by rw[hjs];decide) hne ha hb;simp only[hS] at*;clear ha hb hne;go_enter func56,ntmps56;go_wp2;refine wp_loop_rounds 1 ?_;rw[rounds_succ];go_wp2;go_ret;exact⟨rfl,rfl⟩
theorem uH (pb po:Nat)(b:Addr)(w:ag)(h1:w.cell? (ak pb (po+1))=some (eV b)):
  au 56 #[.iface 90 (.pointer (some ⟨pb,po,none⟩)),eV b] w fun e w'=>e=.returned (.bool true)/\w'=w:=by
 obtain⟨i,hi,hcmp⟩:=Option.map_eq_some_iff.1 Im;obtain⟨j,hj,hjs⟩:=Option.map_eq_some_iff.1 Io;have h8:=@run_callFunc_extern prog 100 _ Extern.ReflectliteType.typeOf func100 (by kernel_rfl) (by kernel_rfl) (by kernel_rfl) (by kernel_rfl);have h32:=@run_callFunc_extern prog 340 _ LP func340 (by kernel_rfl) (by kernel_rfl) (by kernel_rfl) (by kernel_rfl);have tT:=wo;have cT:=lG;have mR:=iW;have nW:=a4d;have uW:=CO;have mU:=wU;have heq:=run_eql_iface_ptr_same (P:=prog) w b underlying26 underlying401 hi hcmp hj;have hty:=run_eql_iface_types (P:=prog) 90 401 (.pointer (some ⟨pb,po,none⟩)) (.pointer (some b)) underlying26 (by decide) w;simp only[hS] at*;go_enter func56,ntmps56;go_wp2;refine wp_loop_rounds 2 ?_;rw[rounds_succ];go_wp2;rw[rounds_succ];go_wp2;go_ret;exact⟨rfl,rfl⟩
theorem rO (pb po:Nat)(b a:Addr)(ca cb:Array ah)(ta tb:TypeId)(w:ag)(h1:w.cell? (ak pb (po+1))=some (eV a))(hne:a≠b)(ha:w.heap[a.block]? =some (.cells ca ta (0,0)))(hb:w.heap[b.block]? =some (.cells cb tb (0,0))):
  au 56 #[.iface 90 (.pointer (some ⟨pb,po,none⟩)),eV b] w fun e w'=>e=.returned (.bool false)/\w'=w:=by
 obtain⟨i,hi,hcmp⟩:=Option.map_eq_some_iff.1 Im;obtain⟨j,hj,hjs⟩:=Option.map_eq_some_iff.1 Io;have h8:=@run_callFunc_extern prog 100 _ Extern.ReflectliteType.typeOf func100 (by kernel_rfl) (by kernel_rfl) (by kernel_rfl) (by kernel_rfl);have h32:=@run_callFunc_extern prog 340 _ LP func340 (by kernel_rfl) (by kernel_rfl) (by kernel_rfl) (by kernel_rfl);have tT:=wo;have cT:=lG;have mR:=iW;have nE:=a4c;have uE:=xC;have vE:=uS;have nW:=a4d;have uW:=CO;have mU:=wU;have heq:=run_eql_iface_ptr_other (P:=prog) w underlying26 underlying401 hi hcmp hj (by rw[hjs];decide) hne ha hb;have hty:=run_eql_iface_types (P:=prog) 90 401 (.pointer (some ⟨pb,po,none⟩)) (.pointer (some b)) underlying26 (by decide) w;simp only[hS] at*;clear ha hb hne;go_enter func56,ntmps56;go_wp2;refine wp_loop_rounds 2 ?_;rw[rounds_succ];go_wp2;rw[rounds_succ];go_wp2;go_ret;exact⟨rfl,rfl⟩
end
section
open Go.RowKit
structure EE (E:Nat->Addr)(w:ag):Prop where
 c1:w.cell? (ak 1 0)=some (.iface 401 (.pointer (some (E 1))))
 c2:w.cell? (ak 0 0)=some (.iface 401 (.pointer (some (E 2))))
 c3:w.cell? (ak 3 0)=some (.iface 401 (.pointer (some (E 3))))
 c4:w.cell? (ak 4 0)=some (.iface 401 (.pointer (some (E 4))))
 c5:w.cell? (ak 5 0)=some (.iface 401 (.pointer (some (E 5))))
 c6:w.cell? (ak 6 0)=some (.iface 401 (.pointer (some (E 6))))
 c7:w.cell? (ak 2 0)=some (.iface 401 (.pointer (some (E 7))))
 c8:w.cell? (ak 7 0)=some (.iface 401 (.pointer (some (E 8))))
 c9:w.cell? (ak 8 0)=some (.iface 401 (.pointer (some (E 9))))
 c10:w.cell? (ak 9 0)=some (.iface 401 (.pointer (some (E 10))))
 c11:w.cell? (ak 10 0)=some (.iface 401 (.pointer (some (E 11))))
 et:w.cell? (ak 11 0)=some (.iface 235 (.agg #[hE]))
 blk:∀k,1<=k->k<=11->∃c t,w.heap[(E k).block]? =some (.cells c t (0,0))
 ne:∀j k,1<=j->j<=11->1<=k->k<=11->j≠k->E j≠E k
theorem EE.below {E:Nat->Addr}{w w':ag}{B:Nat}(h:EE E w)(hb:Below B w w')(hB:w.heap.size<=B):EE E w' where
 c1:=(hb.cell (bI (lt_of_cell h.c1) hB)).trans h.c1
 c2:=(hb.cell (bI (lt_of_cell h.c2) hB)).trans h.c2
 c3:=(hb.cell (bI (lt_of_cell h.c3) hB)).trans h.c3
 c4:=(hb.cell (bI (lt_of_cell h.c4) hB)).trans h.c4
 c5:=(hb.cell (bI (lt_of_cell h.c5) hB)).trans h.c5
 c6:=(hb.cell (bI (lt_of_cell h.c6) hB)).trans h.c6
 c7:=(hb.cell (bI (lt_of_cell h.c7) hB)).trans h.c7
 c8:=(hb.cell (bI (lt_of_cell h.c8) hB)).trans h.c8
 c9:=(hb.cell (bI (lt_of_cell h.c9) hB)).trans h.c9
 c10:=(hb.cell (bI (lt_of_cell h.c10) hB)).trans h.c10
 c11:=(hb.cell (bI (lt_of_cell h.c11) hB)).trans h.c11
 et:=(hb.cell (bI (lt_of_cell h.et) hB)).trans h.et
 blk:=fun k h1 h2=>by
  obtain⟨c,t,hc⟩:=h.blk k h1 h2;have hl:(E k).block<w.heap.size:=by
   rcases Nat.lt_or_ge (E k).block w.heap.size with h'|h'
   ·exact h'
   ·simp[Array.getElem?_eq_none h'] at hc
  exact⟨c,t,(hb.block _ (bI hl hB)).trans hc⟩
 ne:=h.ne
theorem EE.alloc {E:Nat->Addr}{w:ag}(h:EE E w)(o:Obj):EE E (w.alloc o):=h.below ((aG w.heap.size w).alloc ai o) ai
theorem a4e {E:Nat->Addr}{w:ag}(h:EE E w)(j k:Nat)(j1:1<=j)(j2:j<=11)(k1:1<=k)(k2:k<=11):
  au 56 #[eV (E k),eV (E j)] w fun e w'=>e=.returned (.bool (decide (k=j)))/\w'=w:=by
 by_cases e:k=j
 ·subst e;simp only[decide_true];exact Rb _ _
 ·obtain⟨c,t,hc⟩:=h.blk k k1 k2;obtain⟨c',t',hc'⟩:=h.blk j j1 j2;simp only[e,decide_false];exact LQ _ _ _ _ _ _ _ (h.ne k j k1 k2 j1 j2 e) hc hc'
theorem zH {E:Nat->Addr}{w:ag}(h:EE E w)(pb po:Nat)(j k:Nat)(h1:w.cell? (ak pb (po+1))=some (eV (E k)))(j1:1<=j)(j2:j<=11)(k1:1<=k)(k2:k<=11):
  au 56 #[.iface 90 (.pointer (some ⟨pb,po,none⟩)),eV (E j)] w fun e w'=>e=.returned (.bool (decide (k=j)))/\w'=w:=by
 by_cases e:k=j
 ·subst e;simp only[decide_true];exact uH _ _ _ _ h1
 ·obtain⟨c,t,hc⟩:=h.blk k k1 k2;obtain⟨c',t',hc'⟩:=h.blk j j1 j2;simp only[e,decide_false];exact rO _ _ _ _ _ _ _ _ _ h1 (h.ne k j k1 k2 j1 j2 e) hc hc'
theorem Yg (w:ag):au 23 #[.nilIface] w fun e w'=>e=.returned (.tuple #[aa 0,aa (-1)])/\w'=w:=by
 go_enter func23,ntmps23;go_wp2
 go_ret2
 exact⟨rfl,rfl⟩
abbrev wV (E:Nat->Addr):Array ah:=#[eV (E 1),eV (E 2),eV (E 3),eV (E 4),eV (E 5),eV (E 6),eV (E 7),eV (E 8),eV (E 9),eV (E 10),eV (E 11)]
theorem LU (E:Nat->Addr)(w:ag)(t:TypeId)(i:Nat)(hi:i<11):(w.alloc (.cells (wV E) t)).cell? ⟨w.heap.size,i,none⟩=some (eV (E (i+1))):=by
 rcases i with _|_|_|_|_|_|_|_|_|_|_|i
 all_goals first|omega|simp[wV]
theorem a1U {E:Nat->Addr}(k:Nat)(k1:1<=k)(k2:k<=11)(w:ag)(h:EE E w):
  au 23 #[eV (E k)] w fun e w'=>e=.returned (.tuple #[aa k,aa (-1)])/\Below w.heap.size w w':=by
 go_enter func23,ntmps23;go_wp2_with(go_at_call 55;refine(Qj _ _ _ (h.alloc _).et).mono ?_;rintro e w1 ⟨rfl,hb⟩;have h1:=(h.alloc _).below hb ai;obtain⟨d1,d2,d3,d4,d5,d6,d7,d8,d9,d10,d11,_,_,_⟩:=id h1);have hrow:=LU E w1 26;have hE2:=h1.alloc (.cells (wV E) 26);have hB2:Below w.heap.size w (w1.alloc (.cells (wV E) 26)):=(((aG _ _).alloc ai _).trans (hb.mono (by simp))).alloc (by have:=hb.size;simp at this;omega) _;clear hb h1 d1 d2 d3 d4 d5 d6 d7 d8 d9 d10 d11;simp only[wV,eV] at hrow hE2 hB2⊢;generalize (w1.alloc (.cells #[.iface 401 (.pointer (some (E 1))),.iface 401 (.pointer (some (E 2))),.iface 401 (.pointer (some (E 3))),.iface 401 (.pointer (some (E 4))),.iface 401 (.pointer (some (E 5))),.iface 401 (.pointer (some (E 6))),.iface 401 (.pointer (some (E 7))),.iface 401 (.pointer (some (E 8))),.iface 401 (.pointer (some (E 9))),.iface 401 (.pointer (some (E 10))),.iface 401 (.pointer (some (E 11)))] 26))=W2 at hrow hE2 hB2⊢
 go_loop [3,29] (fun y x=>y=aa (-1)/\∃i:Nat,i<k/\x=aa i) (fun _ x=>11-(intOf x).toNat)
 case atStart=>exact⟨rfl,0,k1,rfl⟩
 case round=>
  obtain⟨rfl,i,hi,rfl⟩:=hrel;have ae5:(i:Int)<11:=by omega
  have hc:=hrow i (by omega);by_cases e:k=i+1
  ·subst e;go_wp2_with(go_at_call 56;refine(a4e hE2 (i+1) (i+1) (by omega) (by omega) (by omega) (by omega)).mono ?_;rintro e w' ⟨rfl,rfl⟩)
   go_ret2
   exact⟨by simp,hB2⟩
  ·have hd:decide (k=i+1)=false:=by simpa using e
   go_wp2_with(go_at_call 56;refine(a4e hE2 (i+1) k (by omega) (by omega) (by omega) (by omega)).mono ?_;rw[hd];rintro e w' ⟨rfl,rfl⟩)
   go_round
   case rel=>exact⟨rfl,i+1,by omega,by go_num⟩
   case measure=>simp[intOf];omega
theorem OL {E:Nat->Addr}(k:Nat)(pb po:Nat)(n:Int)(k1:1<=k)(k2:k<=11)(w:ag)(h:EE E w)(hp:w.cell? (ak pb po)=some (aa n))(hq:w.cell? (ak pb (po+1))=some (eV (E k))):
  au 23 #[.iface 90 (.pointer (some ⟨pb,po,none⟩))] w fun e w'=>e=.returned (.tuple #[aa k,aa n])/\Below w.heap.size w w':=by
 have hpl:=lt_of_cell hp;have hbel:∀o,Below w.heap.size w (w.alloc o):=fun o=>(aG _ _).alloc ai o;go_enter func23,ntmps23;go_wp2_with fail;refine(W9 ⟨pb,po,none⟩ ⟨w.heap.size,0,none⟩ (.pointer none) _ (h.alloc _).et (by simp) (by simp)).mono ?_;rintro e w1' ⟨rfl,w1,hb,rfl⟩;have hb1:Below w.heap.size w (w1.setCell ⟨w.heap.size,0,none⟩ (.pointer (some ⟨pb,po,none⟩))):=((hbel _).trans (hb.mono (by simp))).setCell ai _;have h1:=h.below hb1 ai;obtain⟨d1,d2,d3,d4,d5,d6,d7,d8,d9,d10,d11,_,_,_⟩:=id h1;have p1:=(hb1.cell (p:=⟨pb,po,none⟩) hpl).trans hp;have q1:=(hb1.cell (p:=⟨pb,po+1,none⟩) hpl).trans hq;have f1:(w1.setCell ⟨w.heap.size,0,none⟩ (.pointer (some ⟨pb,po,none⟩))).cell? ⟨w.heap.size,0,none⟩=some (.pointer (some ⟨pb,po,none⟩)):=by
  have c0:w1.cell? ⟨w.heap.size,0,none⟩=some (.pointer none):=by rw[hb.cell (p:=⟨w.heap.size,0,none⟩) (by simp)];simp
  exact fM _ _ _ (by rw[c0];rfl)
 generalize (w1.setCell ⟨w.heap.size,0,none⟩ (.pointer (some ⟨pb,po,none⟩)))=w3 at hb1 h1 d1 d2 d3 d4 d5 d6 d7 d8 d9 d10 d11 p1 q1 f1⊢;go_wp2;have hrow:=LU E w3 26;have hE2:=h1.alloc (.cells (wV E) 26);have hB2:Below w.heap.size w (w3.alloc (.cells (wV E) 26)):=hb1.alloc hb1.size _;have HQ:Hid ((w3.alloc (.cells (wV E) 26)).cell? (ak pb (po+1))=some (eV (E k))):=(hB2.cell (p:=⟨pb,po+1,none⟩) hpl).trans hq;clear hb h1 hb1 d1 d2 d3 d4 d5 d6 d7 d8 d9 d10 d11 p1 q1 f1 hp hq hbel;simp only[wV,eV] at hrow hE2 hB2 HQ⊢;generalize (w3.alloc (.cells #[.iface 401 (.pointer (some (E 1))),.iface 401 (.pointer (some (E 2))),.iface 401 (.pointer (some (E 3))),.iface 401 (.pointer (some (E 4))),.iface 401 (.pointer (some (E 5))),.iface 401 (.pointer (some (E 6))),.iface 401 (.pointer (some (E 7))),.iface 401 (.pointer (some (E 8))),.iface 401 (.pointer (some (E 9))),.iface 401 (.pointer (some (E 10))),.iface 401 (.pointer (some (E 11)))] 26))=W2 at hrow hE2 hB2 HQ⊢
 go_loop [3,29] (fun y x=>y=aa n/\∃i:Nat,i<k/\x=aa i) (fun _ x=>11-(intOf x).toNat)
 case atStart=>exact⟨rfl,0,k1,rfl⟩
 case round=>
  obtain⟨rfl,i,hi,rfl⟩:=hrel;have ae5:(i:Int)<11:=by omega
  have hc:=hrow i (by omega);by_cases e:k=i+1
  ·subst e;go_wp2_with(go_at_call 56;refine(zH hE2 pb po (i+1) (i+1) HQ.out (by omega) (by omega) (by omega) (by omega)).mono ?_;rintro e w' ⟨rfl,rfl⟩)
   go_ret2
   exact⟨by simp,hB2⟩
  ·have hd:decide (k=i+1)=false:=by simpa using e
   go_wp2_with(go_at_call 56;refine(zH hE2 pb po (i+1) k HQ.out (by omega) (by omega) (by omega) (by omega)).mono ?_;rw[hd];rintro e w' ⟨rfl,rfl⟩)
   go_round
   case rel=>exact⟨rfl,i+1,by omega,by go_num⟩
   case measure=>simp[intOf];omega
structure DE (E:Nat->Addr)(w:ag):Prop where
 c2:w.cell? (ak 0 0)=some (.iface 401 (.pointer (some (E 2))))
 c3:w.cell? (ak 3 0)=some (.iface 401 (.pointer (some (E 3))))
 c4:w.cell? (ak 4 0)=some (.iface 401 (.pointer (some (E 4))))
 c5:w.cell? (ak 5 0)=some (.iface 401 (.pointer (some (E 5))))
 c6:w.cell? (ak 6 0)=some (.iface 401 (.pointer (some (E 6))))
 c7:w.cell? (ak 2 0)=some (.iface 401 (.pointer (some (E 7))))
 c8:w.cell? (ak 7 0)=some (.iface 401 (.pointer (some (E 8))))
 c9:w.cell? (ak 8 0)=some (.iface 401 (.pointer (some (E 9))))
 c10:w.cell? (ak 9 0)=some (.iface 401 (.pointer (some (E 10))))
theorem DE.below {E:Nat->Addr}{w w':ag}{B:Nat}(h:DE E w)(hb:Below B w w')(hB:w.heap.size<=B):DE E w' where
 c2:=(hb.cell (bI (az h.c2) hB)).trans h.c2
 c3:=(hb.cell (bI (az h.c3) hB)).trans h.c3
 c4:=(hb.cell (bI (az h.c4) hB)).trans h.c4
 c5:=(hb.cell (bI (az h.c5) hB)).trans h.c5
 c6:=(hb.cell (bI (az h.c6) hB)).trans h.c6
 c7:=(hb.cell (bI (az h.c7) hB)).trans h.c7
 c8:=(hb.cell (bI (az h.c8) hB)).trans h.c8
 c9:=(hb.cell (bI (az h.c9) hB)).trans h.c9
 c10:=(hb.cell (bI (az h.c10) hB)).trans h.c10
end
section
open Go.RowKit
set_option maxRecDepth 20000
theorem Yh (M:Dm):nJ M []=M:=by funext i;simp[nJ]
theorem LV {E:Nat->Addr}{B:Nat}{tg:bP}{W:ag}{DB MB:Nat}{p:Int->Option Nat}{M:Dm}{nx c:Nat}(hE:DE E W)(hd:aX B tg W DB MB p M nx c)(e:gH)(hn:M 0=some e):
  au 156 #[ay DB,aa 0] W fun r w'=>r=.returned (eV (E 3))/\w'=W:=by
 obtain⟨EB,va,vk,hpn,he⟩:=hd.els 0 e hn;have d0:=hd.d0;have c3:=hE.c3;unfold eV;go_enter func156,ntmps156;go_wp2_with(at_lookup;refine fq _ rfl _ _ 93 rfl underlying3 underlying93 (eD _) rfl hd.map 0 rfl (by decide) EB hpn ?_);go_ret;exact⟨rfl,rfl⟩
theorem OM {B:Nat}{tg:bP}{W:ag}{DB MB:Nat}{p:Int->Option Nat}{M:Dm}{nx c:Nat}(hd:aX B tg W DB MB p M nx c)(n:Int)(e q:gH)(hn:M n=some e)(hn0:n≠0)(hq:M e.parent=some q)(hk:q.kids≠[])(f:Nat)(hf:f<=900000)(L:List Int)
  (hp:Dp (dZ M e.parent ⟨q.name,q.ats,q.parent,woL q.kids n⟩) f n) (hL:dG (dZ M e.parent ⟨q.name,q.ats,q.parent,woL q.kids n⟩) f n=L) (hin:∀k∈L,dZ M e.parent ⟨q.name,q.ats,q.parent,woL q.kids n⟩ k≠none) (hnd:L.Nodup) (hll:L.length<=1000000):
  au 156 #[ay DB,aa n] W fun r w'=>r=.returned .nilIface/\KT tg W w'/\∃kR p',(∀x,x<W.heap.size->kR x=tg x)/\aX B kR w' DB MB p' (nJ (dZ M e.parent ⟨q.name,q.ats,q.parent,woL q.kids n⟩) L) nx (c-L.length):=by
 obtain⟨EB,va,vk,hpn,he⟩:=hd.els n e hn;have hwn:=hd.i64 hn;have d0:=hd.d0;have TO:=LM hd n e q hn hq hk;have ala:(n==0)=false:=by rw[beq_eq_false_iff_ne];exact hn0
 obtain⟨M1,hM1⟩:∃M1,dZ M e.parent ⟨q.name,q.ats,q.parent,woL q.kids n⟩=M1:=⟨_,rfl⟩;rw[hM1] at TO hp hL hin⊢;clear hM1;go_enter func156,ntmps156;go_upto_region 7 with(first|(at_lookup;refine fq _ rfl _ _ 93 rfl underlying3 underlying93 (eD _) rfl hd.map n rfl hwn EB hpn ?_)|(go_at_call 208;refine TO.mono ?_;rintro r w1 ⟨rfl,kt1,sJ,tk1,d1⟩));have FR:=Lp d1 f n hf hp hwn (by rw[hL];exact hll);rw[hL] at FR;have HIN:=aj hin;have HND:Hid L.Nodup:=hnd;have HKT:Hid (KT tg W w1/\∀x,x<W.heap.size->sJ x=tg x):=⟨kt1,tk1⟩;clear hin hnd TO hp hL;go_wp2_with(go_at_call 102;refine FR.mono ?_;rintro r w2 ⟨o2,k2,rfl,b2,yc⟩);have d2:=d1.below b2;have HD2:=aj d2;have lM:MB<w1.heap.size:=d1.map.lt;have HB2:=aj b2;clear d1 d2 b2 FR d0 kt1 tk1
 go_loopw [33] (fun y wr=>∃(i:Nat) (p':Int->Option Nat),i<=L.length/\y=aa i/\w2.grownBy wr (some MB)/\aX B sJ wr DB MB p' (nJ M1 (L.take i)) nx (c-i)) (fun y _=>L.length-(intOf y).toNat)
 case atStart=>exact⟨0,p,aP _,rfl,⟨rfl,rfl,rfl,Nat.le_refl _,fun _ _ _=>rfl⟩,by rw[List.take_zero,Yh];exact HD2.out⟩
 case round=>
  obtain⟨i,p',hi,rfl,hg,hdi⟩:=hrel;by_cases hlt:i<L.length
  ·have hlt':(i:Int)<(L.length:Int):=by omega
   obtain⟨k,hx, -⟩:=drop_at hlt;obtain⟨g,hgb,hc⟩:=dF yc i _ (og hx);have hov:o2=some ⟨g,0,none⟩:=by
    obtain⟨o',cap',h1, -, -, -,h2⟩:=dL yc;cases h1;exact h2 g hgb
   subst hov;have hgM:g≠MB:=by have:=(yc.lt g hgb).1;omega
   have hcw:=(World.cell?_of_block (a:=⟨g,i,none⟩) (hg.block g (yc.lt g hgb).2 (fun e1=>hgM (dP e1)))).trans hc;have hkm:k∈L:=fV hx;have hnk:k ∉ L.take i:=fun hm=>by
    have:=HND.out;rw[<- List.take_append_drop i L] at this;exact(List.nodup_append.1 this).2.2 k hm k (by
     obtain⟨y,hy,hdr⟩:=drop_at hlt;rw[hx] at hy;cases hy;rw[hdr];simp) rfl
   obtain⟨fk,hfk⟩:∃fk,nJ M1 (L.take i) k=some fk:=by
    unfold nJ;rw[if_neg hnk];cases hm:M1 k with
    |none=>exact absurd hm (HIN.out k hkm)
    |some fk=>exact⟨fk,rfl⟩
   obtain⟨kb,ka,kk,hpk, -⟩:=hdi.els k fk hfk;have hwk:=hdi.i64 hfk;have d0:=hdi.d0;have htk:nJ M1 (L.take (i+1))=JE (nJ M1 (L.take i)) k:=by
    rw[List.take_add_one,hx];exact Ul _ _ _
   have HTK:=aj htk;clear htk hx hkm hnk hc hgb;go_wp2_with(at_delete;refine TN _ rfl _ _ 93 3 rfl underlying3 underlying93 rfl hdi.map k rfl hwk kb hpk ?_;intro w3 pm3 ht3);have HD3:Hid (aX B sJ w3 DB MB (fun j=>if j=k then none else p' j) (nJ M1 (L.take (i+1))) nx (c-(i+1))):=(by rw[HTK.out,Nat.sub_add_eq];exact hdi.cut pm3 ht3:aX B sJ w3 DB MB (fun j=>if j=k then none else p' j) (nJ M1 (L.take (i+1))) nx (c-(i+1)));have hg3:w2.grownBy w3 (some MB):=hg.trans ht3.grown
   go_roundw
   case rel=>exact⟨i+1,_,by omega,by go_num,hg3,HD3.out⟩
   case measure=>simp[intOf];omega
  ·obtain rfl:i=L.length:=by omega
   have hge:¬(L.length:Int)<(L.length:Int):=by omega
   rw[List.take_length] at hdi;go_wp2_with fail;go_ret;refine⟨rfl,?_,sJ,HKT.out.2,p',hdi⟩;have kt:=HKT.out.1;have bb:=HB2.out;refine kt.trans (kR:=sJ) ⟨hg.os.trans bb.os,hg.tape.trans bb.tape,hg.output.trans bb.output,aJ bb.size hg.size,fun b hb ht=>?_⟩ HKT.out.2;exact(hg.block b (bI hb bb.size) (fun e1=>by have e2:=dP e1;rw[e2,hdi.jk] at ht;cases ht)).trans (bb.block b hb)
end
section
open Go.RowKit
def LW:Array ah->Nat->List ah->Array ah
 |cur,_,[]=>cur
 |cur,o,v::r=>LW (cur.setIfInBounds o v) (o+1) r
theorem jC:∀(vs:List ah) (cur:Array ah) (o:Nat),(LW cur o vs).size=cur.size
 |[],_,_=>rfl
 |v::r,cur,o=>by rw[LW,jC r];simp
theorem ou:∀(vs:List ah) (cur:Array ah) (o j:Nat),o+vs.length<=cur.size->(LW cur o vs)[j]? =if o<=j/\j<o+vs.length then vs[j-o]? else cur[j]?
 |[],cur,o,j,_=>by rw[LW,if_neg (by simp only[List.length_nil];omega)]
 |v::r,cur,o,j,h=>by
  rw[List.length_cons] at h;rw[LW,ou r _ _ _ (by simp;omega)];by_cases h1:o+1<=j/\j<o+1+r.length
  ·rw[if_pos h1,if_pos (by rw[List.length_cons];omega),show j-o=(j-(o+1))+1 from by omega];simp
  ·rw[if_neg h1,Array.getElem?_setIfInBounds];by_cases h2:o=j
   ·subst h2;rw[if_pos rfl,if_pos (by omega),if_pos (by rw[List.length_cons];omega)];simp
   ·rw[if_neg h2,if_neg (by rw[List.length_cons];omega)]
theorem setCells_at:∀(vs:List ah) (w:ag) (g o:Nat) (cur:Array ah) (t:TypeId),w.heap[g]? =some (.cells cur t)->(w.setCells g o vs).heap[g]? =some (.cells (LW cur o vs) t)
 |[],_,_,_,_,_,h=>h
 |v::r,w,g,o,cur,t,h=>by
  rw[World.setCells,LW];exact setCells_at r _ g (o+1) _ t (heap_setCell_same w g o cur t v h)
theorem pW:∀(vs:List ah) (w:ag) (g o x:Nat),x≠g->(w.setCells g o vs).heap[x]? =w.heap[x]?
 |[],_,_,_,_,_=>rfl
 |v::r,w,g,o,x,h=>by
  rw[World.setCells,pW r _ g (o+1) x h];exact aY _ _ _ x h
theorem dO:∀(vs:List ah) (w:ag) (g o:Nat),w.grownBy (w.setCells g o vs) (some g)
 |[],w,g,o=>⟨rfl,rfl,rfl,Nat.le_refl _,fun _ _ _=>rfl⟩
 |v::r,w,g,o=>by
  rw[World.setCells];have h1:=dO r (w.setCell ⟨g,o,none⟩ v) g (o+1);have h2:=(aG g w).setCell (p:=⟨g,o,none⟩) ai v;have h3:w.grownBy (w.setCell ⟨g,o,none⟩ v) (some g):=⟨h2.os,h2.tape,h2.output,h2.size,fun x _ hx=>aY _ _ _ x (fun e=>hx (by rw[e]))⟩;exact h3.trans h1
def jl (L:List Int)(i:Nat)(k:Int):List Int:=L.take i++k::L.drop i
theorem Gf (L:List Int)(i:Nat)(k:Int)(h:i<=L.length):(jl L i k).length=L.length+1:=by
 unfold jl;simp;omega
theorem sS (L:List Int)(i j:Nat)(k:Int)(h:i<=L.length):(aU (jl L i k))[j]? =if j<i then(aU L)[j]? else if j=i then some (aa k) else(aU L)[j-1]? :=by
 unfold jl aU;rw[List.getElem?_map,List.getElem?_map,List.getElem?_map];by_cases h1:j<i
 ·rw[if_pos h1,List.getElem?_append_left (by simp;omega),List.getElem?_take,if_pos h1]
 ·rw[if_neg h1,iK (by simp;omega),List.length_take,Nat.min_eq_left h];by_cases h2:j=i
  ·subst h2;rw[if_pos rfl,Nat.sub_self];rfl
  ·rw[if_neg h2,show j-i=(j-i-1)+1 from by omega,List.getElem?_cons_succ,List.getElem?_drop,show i+(j-i-1)=j-1 from by omega]
theorem a1V {cur:Array ah}{xs:List ah}{n:Nat}(hn:xs.length=n)(h:∀j,j<n->cur[j]? =xs[j]?):cur.toList.take (n*1)=xs:=by
 apply List.ext_getElem?;intro j;rw[Nat.mul_one,List.getElem?_take];by_cases hj:j<n
 ·rw[if_pos hj,Array.getElem?_toList];exact h j hj
 ·rw[if_neg hj,List.getElem?_eq_none (by omega)]
theorem OO {w w':ag}{r:Option Nat}{k:Nat}(h:(w.drewN k).grownBy w' r):w.grownBy w' r:=⟨h.os,h.tape,h.output,h.size,h.block⟩
theorem wW {w:ag}{B g cap n:Nat}{cur:Array ah}{xs:List ah}(hB:B<=g)(hg:w.heap[g]? =some (.cells cur 3))(h1:xs.length=n)(h2:n<=cap)(h3:cap<=maxLen)(h4:cur.size=cap)(h5:∀j,j<n->cur[j]? =xs[j]?):w.ownsRow B 3 1 (.slice (some ⟨g,0,none⟩) n cap) n xs:=
 ⟨by rw[h1,Nat.mul_one],.inr ⟨g,cap,cur,rfl,hB,hg,h2,h3,by rw[h4,Nat.mul_one],a1V h1 h5⟩⟩
theorem Un (w:ag)(o:Obj)(g i j:Nat)(a b:List ah):w.heap.size<=((((w.alloc o).drew.setCells g i a).drew).setCells g j b).heap.size:=by
 have h1:w.heap.size<=(w.alloc o).heap.size:=(bT w o).size;have h2:(w.alloc o).heap.size<=((w.alloc o).drew.setCells g i a).heap.size:=(dO a ((w.alloc o).drew) g i).size;have h3:((w.alloc o).drew.setCells g i a).heap.size<=((((w.alloc o).drew.setCells g i a).drew).setCells g j b).heap.size:=(dO b (((w.alloc o).drew.setCells g i a).drew) g j).size;omega
theorem kE (n:Nat):(Builtin.zeroCells (Value.int .i64 0).cells n).size=n:=by
 simp[Builtin.zeroCells,Value.cells]
theorem ae8 {B:Nat}{w:ag}{v:ah}{L:List Int}{k:Int}{i vb:Nat}(ho:w.ownsRow B 3 1 v L.length (aU L))(hi:i<=L.length)(hb:L.length<=1000000)(hv:w.heap[vb]? =some (.cells #[aa k] 3))(hne:v.ownBlock≠some vb)(hB:B<=w.heap.size):
  au 207 #[v,aa i,.slice (some ⟨vb,0,none⟩) 1 1] w fun e w'=>∃o c,e=.returned (.slice o (L.length+1) c)/\w'.ownsRow B 3 1 (.slice o (L.length+1) c) (L.length+1) (aU (jl L i k))/\w.grownBy w' v.ownBlock/\((Value.slice o (L.length+1) c).ownBlock=v.ownBlock\/∀g,(Value.slice o (L.length+1) c).ownBlock=some g->w.heap.size<=g):=by
 have hlen:(aU L).length=L.length:=o8 L;have hil:(aU (jl L i k)).length=L.length+1:=(o8 _).trans (Gf L i k hi);have hvs:∀j u,[Value.int .i64 k][j]? =some u->w.cell? (ak vb (0+j))=some u:=fun j u hu=>by
  rw[Nat.zero_add];exact aD hv j u (by simpa using hu)
 have h1v:∀u∈[Value.int .i64 k],u.oneCell'=true:=fun u hu=>by simp at hu;rw[hu];rfl
 have h1c:∀u∈aU L,u.oneCell'=true:=fun u hu=>by
  obtain⟨x, -,rfl⟩:=List.mem_map.1 hu;rfl
 have fresh:∀(o:Option Addr) (c:Nat),(∀a,o=some a->∀j u,(aU L)[j]? =some u->w.cell? (a.add j)=some u)->(o=none->L.length=0)->L.length<=c->c<L.length+1->i=L.length->
   au 207 #[.slice o L.length c,aa i,.slice (some ⟨vb,0,none⟩) 1 1] w fun e w'=>∃o' c',e=.returned (.slice o' (L.length+1) c')/\w'.ownsRow B 3 1 (.slice o' (L.length+1) c') (L.length+1) (aU (jl L i k))/\(∀r,w.grownBy w' r)/\∀g,(Value.slice o' (L.length+1) c').ownBlock=some g->w.heap.size<=g:=fun o c hc hz h3 h4 h5=>by
  subst h5;have H:=Any2.slices_Insert_int_end_grow Tryz.wN o L.length c vb 0 1 1 (aU L) [aa k] w (by decide) h3 (by omega) (by omega) hlen rfl hz hc hvs h1v;refine H.mono fun e w' ⟨he,hw⟩=>⟨_,_,he,?_,fun r=>?_,fun g hg=>by cases hg;exact Nat.le_refl _⟩
  ·rw[hw];have hcg:=grownCap_ge w (L.length+1) c (Tryz.pM.t 3);refine wW hB (dw w.drew _ _) hil hcg (grownCap_le_maxLen _ _ _ _ (by rw[bq];omega)) ?_ fun j hj=>?_
   ·rw[Array.size_append,kE];simp[hlen];omega
   ·rw[Array.getElem?_append_left (by simp[hlen];omega),List.getElem?_toArray,sS L _ j k ai];by_cases h6:j<L.length
    ·rw[if_pos h6,List.getElem?_append_left (by omega)]
    ·rw[if_neg h6,if_pos (by omega),iK (by omega),show j-(aU L).length=0 from by omega];rfl
  ·rw[hw];exact⟨rfl,rfl,rfl,(bT w _).size,fun x hx _=>(bT w _).block x hx⟩
 obtain⟨h1,h2⟩:=ho;rcases h2 with⟨rfl,h2⟩|⟨g,cap,cur,rfl,h3,h4,h5,h6,h7,h8⟩
 ·have H:=fresh none 0 (fun a ha=>by cases ha) (fun _=>h2) (by omega) (by omega) (by omega);rw[h2] at H;rw[h2];exact H.mono fun e w' ⟨o',c',r1,r2,r3,r4⟩=>⟨o',c',r1,r2,r3 _,.inr r4⟩
 rw[Nat.mul_one] at h7 h8;have hgv:vb≠g:=fun e=>hne (by rw[e];rfl);have a5T:∀j,j<L.length->cur[j]? =(aU L)[j]? :=fun j hj=>by
  rw[<- h8,List.getElem?_take,if_pos hj,Array.getElem?_toList]
 have hcs:∀j u,(aU L)[j]? =some u->w.cell? (ak g (0+j))=some u:=fun j u hu=>by
  have hj:j<L.length:=by rw[<- hlen];exact(jc.1 hu).1
  rw[Nat.zero_add];exact aD h4 j u ((a5T j hj).trans hu)
 rw[bq] at h6;have hin:∀j,j<cap->(w.cell? (ak g (0+j))).isSome=true:=fun j hj=>by
  rw[Nat.zero_add,aD h4 j _ (Array.getElem?_eq_getElem (by omega))];rfl
 by_cases hroom:L.length+1<=cap
 ·by_cases a5U:i<L.length
  ·have H:=Any2.slices_Insert_int_shift Tryz.wN g 0 L.length cap i vb 0 1 1 (aU L) [aa k] w a5U (by decide) hroom (by omega) hgv hlen rfl hcs (fun j hj=>hin j (by omega)) (fun j _=>aR h4 _) hvs h1c h1v 3 3 1 cap (by unfold World.shape?;rw[hv];rfl) (by unfold World.shape?;rw[h4];simp[h7]) (by omega) (aR hv _) (aR hv _);refine H.mono fun e w' ⟨he,hw⟩=>⟨_,_,he,?_,?_,.inl rfl⟩
   ·rw[hw,Nat.zero_add,Nat.zero_add];refine wW h3 (setCells_at _ _ g i _ _ (setCells_at _ w.drew g (i+1) cur _ h4)) hil hroom (by rw[bq];omega) (by rw[jC,jC,h7]) fun j hj=>?_;rw[ou _ _ _ _ (by rw[jC];simp;omega),ou _ _ _ _ (by rw[List.length_drop];omega),sS L i j k hi];by_cases h9:j<i
    ·rw[if_pos h9,if_neg (by simp;omega),if_neg (by omega)];exact a5T j (by omega)
    ·rw[if_neg h9];by_cases h10:j=i
     ·subst h10;rw[if_pos rfl,if_pos (by simp),Nat.sub_self];rfl
     ·rw[if_neg h10,if_neg (by simp;omega),if_pos (by rw[List.length_drop];omega),List.getElem?_drop,show i+(j-(i+1))=j-1 from by omega]
   ·rw[hw];exact OO (k:=1) ((dO _ w.drew g _).trans (dO _ _ g _))
  ·obtain rfl:i=L.length:=by omega
   have H:=Any2.slices_Insert_int_end_room Tryz.wN g 0 L.length cap vb 0 1 1 [aa k] w (by decide) hroom (by omega) rfl (fun j hj=>by rw[show 0+L.length+j=0+(L.length+j) from by omega];exact hin _ (by omega)) (fun j _=>aR h4 _) hvs h1v;refine H.mono fun e w' ⟨he,hw⟩=>⟨_,_,he,?_,?_,.inl rfl⟩
   ·rw[hw,Nat.zero_add];refine wW h3 (setCells_at _ w g L.length cur _ h4) hil hroom (by rw[bq];omega) (by rw[jC,h7]) fun j hj=>?_;rw[ou _ _ _ _ (by simp;omega),sS L _ j k ai];by_cases h9:j<L.length
    ·rw[if_pos h9,if_neg (by omega)];exact a5T j h9
    ·obtain rfl:j=L.length:=by omega
     rw[if_pos ⟨Nat.le_refl _,by simp⟩,if_neg (Nat.lt_irrefl _),if_pos rfl,Nat.sub_self];rfl
   ·rw[hw];exact dO _ w g _
 ·by_cases a5U:i<L.length
  ·have H:=Any2.slices_Insert_int_grow Tryz.wN g 0 L.length cap i vb 0 1 1 (aU L) [aa k] w a5U (by decide) h5 (by omega) (by omega) hlen rfl hcs hvs h1c h1v;have hcg:=grownCap_ge w (L.length+1) cap (Tryz.pM.t 3);refine H.mono fun e w' ⟨he,hw⟩=>⟨_,_,he,?_,?_,.inr fun g' hg'=>by cases hg';exact Nat.le_refl _⟩
   ·rw[hw];have hs0:((aU L).take i).toArray.size=i:=by simp[hlen];omega
    refine wW hB (setCells_at _ _ w.heap.size (i+1) _ _ (setCells_at _ _ w.heap.size i _ _ (dw w _ _))) hil hcg (grownCap_le_maxLen _ _ _ _ (by rw[bq];omega)) ?_ fun j hj=>?_
    ·rw[jC,jC,Array.size_append,Array.size_append,kE,kE,hs0];omega
    ·rw[ou _ _ _ _ (by rw[jC,Array.size_append,Array.size_append,kE,kE,hs0,List.length_drop];omega),ou _ _ _ _ (by rw[Array.size_append,Array.size_append,kE,kE,hs0];simp;omega),sS L i j k hi];by_cases h9:j<i
     ·rw[if_pos h9,if_neg (by omega),if_neg (by simp;omega),Array.getElem?_append_left (by rw[Array.size_append,hs0];omega),Array.getElem?_append_left (by omega),List.getElem?_toArray,List.getElem?_take,if_pos h9]
     ·rw[if_neg h9];by_cases h10:j=i
      ·subst h10;rw[if_pos rfl,if_neg (by omega),if_pos (by simp),Nat.sub_self];rfl
      ·rw[if_neg h10,if_pos (by rw[List.length_drop];omega),List.getElem?_drop,show i+(j-(i+1))=j-1 from by omega]
   ·rw[hw];refine⟨?_,?_,?_,?_,fun x hx hne2=>?_⟩
    ·exact(dO _ _ _ _).os.trans (dO _ ((w.alloc _).drew) _ _).os
    ·exact(dO _ _ _ _).tape.trans (dO _ ((w.alloc _).drew) _ _).tape
    ·exact(dO _ _ _ _).output.trans (dO _ ((w.alloc _).drew) _ _).output
    ·exact Un w _ _ _ _ _ _
    ·rw[pW _ _ _ _ x (by omega)];refine Eq.trans (pW _ _ _ _ x (by omega)) ((bT w _).block x hx)
  ·obtain rfl:i=L.length:=by omega
   have H:=fresh (some ⟨g,0,none⟩) cap (fun a ha j u hu=>by
    cases ha;have hadd:(⟨g,0,none⟩:Addr).add j=⟨g,j,none⟩:=by unfold Addr.add;split<;>simp_all
    rw[hadd];have:=hcs j u hu;rw[Nat.zero_add] at this;exact this) (fun h=>by cases h) h5 (by omega) rfl
   exact H.mono fun e w' ⟨o',c',r1,r2,r3,r4⟩=>⟨o',c',r1,r2,r3 _,.inr r4⟩
end
section
open Go.RowKit
set_option maxRecDepth 20000
def Up (M:Dm):Int->Nat->Prop
 |i,0=>M i=none
 |i,d+1=>∃e,M i=some e/\Up M e.parent d
theorem CQ {B:Nat}{tg:bP}{W:ag}{DB MB:Nat}{p:Int->Option Nat}{M:Dm}{nx c:Nat}(hd:aX B tg W DB MB p M nx c)(n:Int)(d:Nat)(hn:dR n)(hu:Up M n d)(hdl:d<=1000000):
  au 205 #[ay DB,aa n] W fun r w'=>r=.returned (aa d)/\Below W.heap.size W w':=by
 have d0:=hd.d0;have ald:(d:Int)<=1000000:=by omega
 have HD:=aj hd;go_enter func205,ntmps205;go_wp2_with(at_lookup;refine Xu _ rfl _ _ 93 rfl underlying3 underlying93 (eD _) rfl hd.map n rfl hn ?_)
 go_loopw [5,6] (fun y z wr=>∃(j r:Nat) (i:Int),j+r=d/\y=aa j/\z=.pointer ((p i).map fun b=>⟨b,0,none⟩)/\Up M i r/\Below W.heap.size W wr) (fun y _ _=>d-(intOf y).toNat)
 case atStart=>exact⟨0,d,n,by omega,rfl,rfl,hu,aG _ _⟩
 case round=>
  obtain⟨j,r,i,hjr,rfl,rfl,hup,hb⟩:=hrel;have hdw:=HD.out.below hb;cases r with
  |zero=>
   have hpi:=HD.out.non i hup;rw[hpi];obtain rfl:j=d:=by omega
   go_wp2_with fail;go_ret;exact⟨rfl,hb⟩
  |succ r=>
   obtain⟨e,hm,a9R⟩:=hup;obtain⟨b,va,vk,hpi,he⟩:=hdw.els i e hm;have hwp:=(hdw.wf i e hm).1;rw[hpi];have x0:=hdw.d0;have x2:=he.c2;have g1:(Instr.lookup 93 (.map (some MB)) (aa e.parent) false).run prog wr.drew=.ok (.pointer ((p e.parent).map fun b=>⟨b,0,none⟩)) wr.drew:=by
    cases Ub:p e.parent with
    |none=>exact gq.a1T (w:=wr.drew) (hdw.map.same rfl) underlying3 underlying93 (eD _) hwp Ub
    |some b'=>exact gq.run_get (w:=wr.drew) (hdw.map.same rfl) underlying3 underlying93 (eD _) hwp Ub
   have hj:(j:Int)<1000000:=by omega
   have HUP:=aj a9R;clear a9R hm he;go_wp2_with fail;go_region;go_wp2_with fail
   go_roundw
   case rel=>exact⟨j+1,r,e.parent,by omega,by go_num,rfl,HUP.out,zu 1 hb⟩
   case measure=>simp[intOf];omega
theorem a1W {B:Nat}{tg:bP}{W:ag}{DB MB:Nat}{p:Int->Option Nat}{M:Dm}{nx c:Nat}(hd:aX B tg W DB MB p M nx c)(par:Int)(a:Nat)(name:Bs)(q:gH)(hq:M par=some q)(ha:a<=q.kids.length)(hnm:gG name=true)(d:Nat)(hu:Up M par d)(hdl:d<10)(hc:c<100)(hnx:nx<1000000)(hkl:q.kids.length<=1000000)(hB:B<=W.heap.size):
  au 155 #[ay DB,aa par,aa a,.string ⟨name.toArray⟩] W fun r w'=>r=.returned (.tuple #[aa nx,.nilIface])/\KT tg W w'/\∃kR p',(∀x,x<W.heap.size->kR x=tg x)/\aX B kR w' DB MB p' (dZ (dZ M nx ⟨name,[],par,[]⟩) par ⟨q.name,q.ats,q.parent,jl q.kids a nx⟩) (nx+1) (c+1):=by
 obtain⟨QB,qa,qk,hpq,hq1⟩:=hd.els par q hq;obtain⟨oq,kq,rfl⟩:=aM hq1.kids;have hwp:=hd.i64 hq;have d0:=hd.d0;have y3:=hq1.c3;have hnl:=jg hnm;have ha0:¬(a:Int)<0:=by omega
 have hak:¬(q.kids.length:Int)<(a:Int):=by omega
 have IN:=fun w=>iN ⟨name.toArray⟩ (by rw[fU];omega) w;have hin:gG (⟨name.toArray⟩:aC).data.toList=true:=by simpa using hnm
 rw[hin] at IN;have DD:=CQ hd par d hwp hu (by omega);have hpn:par≠(nx:Int):=by have:=hd.dom par q hq;omega
 have HD:=aj hd;have HQ1:=aj hq1;go_enter func155,ntmps155;go_upto_region 12 with(first|(at_lookup;refine fq _ rfl _ _ 93 rfl underlying3 underlying93 (eD _) rfl hd.map par rfl hwp QB hpq ?_)|(go_at_call 69;refine(IN _).mono ?_;rintro r w0 ⟨rfl,rfl⟩)|(go_at_call 205;refine DD.mono ?_;rintro r w1 ⟨rfl,b1⟩;have CT:=xZ (HD.out.below b1))|(go_at_call 206;refine CT.mono ?_;rintro r w2 ⟨rfl,rfl⟩));have hd2:=HD.out.below b1;have E0:=dw w2 #[.string ⟨name.toArray⟩,.slice none 0 0,aa par,.slice none 0 0] 102;have bE:=bT w2 (.cells #[.string ⟨name.toArray⟩,.slice none 0 0,aa par,.slice none 0 0] 102);have NE:U4 B tg (w2.alloc (.cells #[.string ⟨name.toArray⟩,.slice none 0 0,aa par,.slice none 0 0] 102)) w2.heap.size ⟨name,[],par,[]⟩ (.slice none 0 0) (.slice none 0 0):=⟨E0,aJ hB b1.size,hd2.new ai,eH _ _ _ _,fun g hg=>absurd hg (by simp[Value.ownBlock]),eH _ _ _ _,fun g hg=>absurd hg (by simp[Value.ownBlock])⟩;have KE:=Li B tg _ DB MB p M nx c w2.heap.size ⟨name,[],par,[]⟩ (.slice none 0 0) (.slice none 0 0) (hd2.below bE) NE ⟨hwp,by simp⟩ hnx;go_upto_region 13 with(go_at_call 42;refine KE.mono ?_;rintro r w3 ⟨rfl,k3,d3⟩);have hU:=aH b1 bE;have tgo:∀x t,tg x=some t->kS tg nx w2.heap.size (.slice none 0 0) (.slice none 0 0) x=some t:=fun x t ht=>Ch ht (hd2.new ai) (fun g hg=>by cases hg) (fun g hg=>by cases hg);have tgn:∀x,x<w0.heap.size->kS tg nx w2.heap.size (.slice none 0 0) (.slice none 0 0) x=tg x:=fun x hx=>xY (by have:=b1.size;omega) (by simp[Value.ownBlock]) (by simp[Value.ownBlock]);have hq3:xX B (kS tg nx w2.heap.size (.slice none 0 0) (.slice none 0 0)) w3 par QB q qa (.slice oq q.kids.length kq):=HQ1.out.turn fun g t ht hk=>by
  have hne:g≠DB/\g≠MB:=⟨fun e1=>(by have h1:=HD.out.ji;rw[<- e1,ht] at h1;cases h1;rcases hk with hk|hk|hk<;>cases hk),fun e1=>(by have h1:=HD.out.jk;rw[<- e1,ht] at h1;cases h1;rcases hk with hk|hk|hk<;>cases hk)⟩;have hgl:=(HD.out.low g t ht).2;exact⟨tgo g t ht,(k3.block g (by have:=hU.size;omega) hne.1 hne.2).trans (hU.block g hgl)⟩
 obtain⟨T3,Fb⟩:∃T,kS tg nx w2.heap.size (.slice none 0 0) (.slice none 0 0)=T:=⟨_,rfl⟩;rw[Fb] at d3 tgo tgn hq3;have HT3:=aj tgn;have b4:=bT w3 (.cells #[aa nx] 3);have H4:=dw w3 #[aa nx] 3;have d4:=d3.below b4;have hq4:=hq3.turn (kR:=T3) (w':=w3.alloc (.cells #[aa nx] 3)) fun g t ht _=>⟨ht,b4.block g (d3.low g t ht).2⟩;have z3:=hq3.c3;have IE:=ae8 (k:=nx) (i:=a) hq4.kids ha hkl H4 (fun e1=>by have h1:=hq3.iO _ e1;rw[d3.new ai] at h1;cases h1) (by have h1:=hU.size;have h2:=k3.size;have h3:=b4.size;omega);have neQ:some QB≠(Value.slice oq q.kids.length kq).ownBlock:=fun e1=>by have h1:=hq3.iO QB e1.symm;rw[hq3.tag] at h1;cases h1
 have lQ:=aI hq4.cells;have cQ:=hq4.cells;have HF:=aj k3;clear KE NE E0 hd2 Fb k3 tgo tgn;go_wp2_with(go_at_call 207;refine IE.mono ?_;rintro r w5 ⟨o5,k5,rfl,oQ,Yc,lc5⟩;have e5:=(Yc.block QB lQ neQ).trans cQ;have c5:=aD e5 3 _ rfl;have f5:=aR e5);have hL:(jl q.kids a (nx:Int)).length=q.kids.length+1:=Gf _ _ _ ha;rw[<- hL] at oQ;have hMp:dZ M nx ⟨name,[],par,[]⟩ par=some q:=by unfold dZ;rw[if_neg hpn];exact hq
 obtain⟨r1,r2,r3⟩:=d4.kids hMp (by simp only[if_neg hpn];exact hpq) hq4 (fun k hk=>by
  unfold jl at hk;rcases List.mem_append.1 hk with hk|hk
  ·exact(HD.out.wf par q hq).2 k (List.mem_of_mem_take hk)
  ·rcases List.mem_cons.1 hk with rfl|hk
   ·exact WalkArith.wf_i64 (by omega)
   ·exact(HD.out.wf par q hq).2 k (List.mem_of_mem_drop hk)) oQ Yc (by rw[hL];exact lc5)
 rw[hL] at r1 r2 r3
 go_ret2
 refine⟨rfl,?_,_,_,fun x hx=>?_,r1⟩
 ·have hk:=HF.out;have ktu:KT tg w0 w3:=KT.trans (KT.of_below hU) (kR:=tg) (KT.a9q (HD.out.below hU) hk) (fun _ _=>rfl);exact ktu.trans (kR:=T3) (KT.trans (KT.of_below b4) r3 (fun _ _=>rfl)) HT3.out
 ·have h1:=hU.size;have h2:=HF.out.size;have h3:=b4.size;rw[r2 x (by omega)];exact HT3.out x hx
end
section
open Go.RowKit
def OP (tg:bP)(i:Int)(v:ah):bP:=fun x=>if v.ownBlock=some x then some (.ats i) else tg x
theorem aX.a9S {B:Nat}{tg:bP}{w w8:ag}{DB MB:Nat}{p:Int->Option Nat}{M:Dm}{nx c EB:Nat}{i:Int}{e:gH}{va vk v7:ah}{L:List (Bs×Bs)}(h:aX B tg w DB MB p M nx c)(hi:M i=some e)(hp:p i=some EB)(he:xX B tg w i EB e va vk)
  (hE:w8.heap[EB]? =some (.cells #[.string ⟨e.name.toArray⟩,v7,aa e.parent,vk] 102)) (kN:w8.ownsRow B 100 2 v7 L.length (bJ L)) (Es:v7.ownBlock=va.ownBlock\/∀g,v7.ownBlock=some g->w.heap.size<=g)
  (ho:w8.os=w.os) (ht:w8.tape=w.tape) (hu:w8.output=w.output) (hz:w.heap.size<=w8.heap.size) (blk:∀x,x<w.heap.size->x≠EB->va.ownBlock≠some x->w8.heap[x]? =w.heap[x]?):
  aX B (OP tg i v7) w8 DB MB p (dZ M i ⟨e.name,L,e.parent,e.kids⟩) nx c/\(∀x,x<w.heap.size->OP tg i v7 x=tg x)/\KT tg w w8:=by
 have VB:=aI he.cells;have neE:va.ownBlock≠some EB:=fun e1=>by have h1:=he.kZ EB e1;rw[he.tag] at h1;cases h1
 have tk:∀x,x<w.heap.size->OP tg i v7 x=tg x:=fun x hx=>by
  unfold OP;split
  ·rename_i h1;rcases Es with h2|h2
   ·exact(he.kZ x (h2.symm.trans h1)).symm
   ·have:=h2 x h1;omega
  ·rfl
 refine⟨h.put hi hp (va:=v7) (vk:=vk) ⟨hE,?_,kN,?_,?_,?_⟩ hz (h.wf i e hi) tk ?_ ?_ ?_,tk,⟨ho,ht,hu,hz,fun x hx hn=>?_⟩⟩
 ·rw[tk EB VB];exact he.tag
 ·intro g hg;unfold OP;rw[if_pos hg]
 ·exact bS he.kids fun g hg=>blk g (he.kids.lt g hg).2 (fun e1=>by have h1:=he.iO g hg;rw[e1,he.tag] at h1;cases h1) (fun e1=>by have h1:=he.iO g hg;rw[he.kZ g e1] at h1;cases h1)
 ·intro g hg;rw[tk g (he.kids.lt g hg).2];exact he.iO g hg
 ·intro x t ht;unfold OP at ht;split at ht
  ·rename_i h1;exact kN.lt x h1
  ·have:=h.low x t ht;omega
 ·intro x hx;unfold OP;split
  ·exact .inr (.inr (.inl rfl))
  ·exact .inl (h.new hx)
 ·intro x t ht h1 h2 h3;exact blk x (h.low x t ht).2 (fun e1=>by rw[e1,he.tag] at ht;cases ht;exact h1 rfl) (fun e1=>by rw[he.kZ x e1] at ht;cases ht;exact h2 rfl)
 ·exact blk x hx (fun e1=>by rw[e1,he.tag] at hn;cases hn) (fun e1=>by rw[he.kZ x e1] at hn;cases hn)
theorem Rc:∀(l:List (Bs×Bs)) (nm v:Bs),kQ l nm=none->nC l nm v=l++[(nm,v)]
 |[],_,_,_=>rfl
 |a::l,nm,v,h=>by
  rw[sw] at h;rw[nC];by_cases hk:(a.1==nm)=true
  ·rw[if_pos hk] at h;cases h
  ·rw[if_neg hk] at h⊢;rw[Rc l nm v h];rfl
theorem Re:∀(l:List (Bs×Bs)) (nm v:Bs) (k i:Nat),fI nm k l=((k+i:Nat):Int)->nC l nm v=l.set i (nm,v)/\a4R l nm=l.take i++l.drop (i+1)/\∃x,l[i]? =some x/\x.1=nm
 |[],nm,v,k,i,h=>by unfold fI at h;omega
 |a::l,nm,v,k,i,h=>by
  unfold fI at h;rw[nC,a4R];by_cases hk:(a.1==nm)=true
  ·rw[if_pos hk] at h⊢;rw[if_pos hk];obtain rfl:i=0:=by omega
   exact⟨rfl,by simp,a,rfl,eq_of_beq hk⟩
  ·rw[if_neg hk] at h⊢;rw[if_neg hk];have hi:1<=i:=by
    rcases wQ l nm (k+1) with⟨h1, -⟩|⟨j,x,h1, -⟩<;>omega
   obtain⟨j,rfl⟩:∃j,i=j+1:=⟨i-1,by omega⟩;obtain⟨h1,h2,x,h3,h4⟩:=Re l nm v (k+1) j (by rw[h];congr 1;omega);exact⟨by rw[h1];rfl,by rw[h2];simp,x,by simpa using h3,h4⟩
theorem CV:∀(l:List (Bs×Bs)) (i:Nat) (nm v:Bs),(∃x,l[i]? =some x/\x.1=nm)->(bJ l).set (i*2+1) (.string ⟨v.toArray⟩)=bJ (l.set i (nm,v))
 |[],_,_,_,⟨x,h,_⟩=>by simp at h
 |a::l,0,nm,v,⟨x,h,hx⟩=>by
  simp at h;subst h hx;rfl
 |a::l,i+1,nm,v,⟨x,h,hx⟩=>by
  have:=CV l i nm v ⟨x,by simpa using h,hx⟩;rw[show(i+1)*2+1=i*2+1+1+1 from by omega];simp only[bJ,List.cons_append,List.nil_append,List.set_cons_succ,this]
end
end Go.Proofs.YtecneflbncjhpaaGreatDoor

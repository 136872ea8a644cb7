/-
  Parts of the proof.
-/
import Derived.Stop.Asserts
import Derived.RowKitTokens
import Derived.Test.YtgphclgmmocdhaaGreatDoorQh25
namespace Go.Proofs.YtgphclgmmocdhaaGreatDoor
section
open Go.RowKit Go.Extern.Stop Go.Stop Go.Extern
abbrev hPP:Value:=.pointer (some ⟨19,278,none⟩)
abbrev hP:Value:=.pointer (some ⟨19,143,none⟩)
abbrev hE:Value:=.pointer (some ⟨19,31,none⟩)
abbrev hS:Value:=.pointer (some ⟨19,409,none⟩)
theorem typeOfS (v:Value) (w:World):(ReflectliteType.typeOf #[.iface 409 v]).run Tryz.prog w=.ok (.iface 316 (.agg #[hS])) w:=by kernel_rfl
end
section
open Go.RowKit Go.Extern.Stop Go.Stop Go.Extern
theorem noUnwrapS (v:Value) (xT:TypeId) (w:World):(Instr.typeAssert (.iface 409 v) xT 321 true).run Tryz.prog w=.ok (.tuple #[.nilIface,.bool false]) w:=run_typeAssert_lacksB Tryz.underlying321 (by kernel_rfl) (by kernel_rfl) v xT w
theorem noUnwrapsS (v:Value) (xT:TypeId) (w:World):(Instr.typeAssert (.iface 409 v) xT 322 true).run Tryz.prog w=.ok (.tuple #[.nilIface,.bool false]) w:=run_typeAssert_lacksB Tryz.underlying322 (by kernel_rfl) (by kernel_rfl) v xT w
end
section
open Go.RowKit Go.Extern.Stop Go.Stop Go.Extern
set_option maxHeartbeats 1000000
abbrev eV (a:Addr):Value:=.iface 409 (.pointer (some a))
def compF:Array Value->Sem Value:=Extern.ReflectliteType.method fun t=>do Rtype.noPackHeld "Comparable" t;pure (.bool (<- typeInfo t).comparable)
theorem isComparable (w:World):(compF #[.agg #[hS]]).run Tryz.prog w=.ok (.bool true) w:=by kernel_rfl
theorem methodComparable (v:Value) (w:World):(Go.method 549 316 v "Comparable").run Tryz.prog w=.ok (350,v) w:=by kernel_rfl
theorem isComp:(Tryz.prog.info? 409).map (·.comparable)=some true:=by kernel_rfl
theorem isSize:(Tryz.prog.info? 411).map (·.size)=some 1:=by kernel_rfl
theorem noIsS (v:Value) (xT:TypeId) (w:World):(Instr.typeAssert (.iface 409 v) xT 318 true).run Tryz.prog w=.ok (.tuple #[.nilIface,.bool false]) w:=run_typeAssert_lacksB Tryz.underlying318 (by kernel_rfl) (by kernel_rfl) v xT w
theorem noIsP (v:Value) (xT:TypeId) (w:World):(Instr.typeAssert (.iface 143 v) xT 318 true).run Tryz.prog w=.ok (.tuple #[.nilIface,.bool false]) w:=run_typeAssert_lacksB Tryz.underlying318 (by kernel_rfl) (by kernel_rfl) v xT w
theorem hasUnwrapP (v:Value) (xT:TypeId) (w:World):(Instr.typeAssert (.iface 143 v) xT 321 true).run Tryz.prog w=.ok (.tuple #[.iface 143 v,.bool true]) w:=run_typeAssert_hasB Tryz.underlying321 (by kernel_rfl) v xT w
theorem methodUnwrap (v:Value) (w:World):(Go.method 549 143 v "Unwrap").run Tryz.prog w=.ok (345,v) w:=by kernel_rfl
theorem is_same (a:Addr) (w:World) :
  Calls Tryz.prog 123 #[eV a,eV a] w fun e w'=>e=.returned (.bool true)/\w'=w:=by
 obtain ⟨i,hi,hcmp⟩:=Option.map_eq_some_iff.1 isComp
 obtain ⟨j,hj,hjs⟩:=Option.map_eq_some_iff.1 isSize
 have h8:=@run_callFunc_extern Tryz.prog 178 _ Extern.ReflectliteType.typeOf Tryz.func178 (by kernel_rfl) (by kernel_rfl) (by kernel_rfl) (by kernel_rfl)
 have h32:=@run_callFunc_extern Tryz.prog 350 _ compF Tryz.func350 (by kernel_rfl) (by kernel_rfl) (by kernel_rfl) (by kernel_rfl)
 have tT:=typeOfS
 have cT:=isComparable
 have mR:=methodComparable
 have heq:=run_eql_iface_ptr_same (P:=Tryz.prog) w a Tryz.underlying31 Tryz.underlying409 hi hcmp hj
 simp only [hS] at *
 go_enter Tryz.func123,Tryz.ntmps123
 go_wp2
 refine wp_loop_rounds 1 ?_
 rw [rounds_succ]
 go_wp2
 go_ret
 exact ⟨rfl,rfl⟩
theorem is_other (a b:Addr) (ca cb:Array Value) (ta tb:TypeId) (w:World) (hne:a≠b) (ha:w.heap[a.block]? = some (.cells ca ta (0,0))) (hb:w.heap[b.block]? = some (.cells cb tb (0,0))) :
  Calls Tryz.prog 123 #[eV a,eV b] w fun e w'=>e=.returned (.bool false)/\w'=w:=by
 obtain ⟨i,hi,hcmp⟩:=Option.map_eq_some_iff.1 isComp
 obtain ⟨j,hj,hjs⟩:=Option.map_eq_some_iff.1 isSize
 have h8:=@run_callFunc_extern Tryz.prog 178 _ Extern.ReflectliteType.typeOf Tryz.func178 (by kernel_rfl) (by kernel_rfl) (by kernel_rfl) (by kernel_rfl)
 have h32:=@run_callFunc_extern Tryz.prog 350 _ compF Tryz.func350 (by kernel_rfl) (by kernel_rfl) (by kernel_rfl) (by kernel_rfl)
 have tT:=typeOfS
 have cT:=isComparable
 have mR:=methodComparable
 have nE:=noIsS
 have uE:=noUnwrapS
 have vE:=noUnwrapsS
 have heq:=run_eql_iface_ptr_other (P:=Tryz.prog) w Tryz.underlying31 Tryz.underlying409 hi hcmp hj (by rw [hjs];decide) hne ha hb
 simp only [hS] at *
 clear ha hb hne
 go_enter Tryz.func123,Tryz.ntmps123
 go_wp2
 refine wp_loop_rounds 1 ?_
 rw [rounds_succ]
 go_wp2
 go_ret
 exact ⟨rfl,rfl⟩
theorem is_fault_same (pb po:Nat) (b:Addr) (w:World) (h1:w.cell? ⟨pb,po+1,none⟩=some (eV b)) :
  Calls Tryz.prog 123 #[.iface 143 (.pointer (some ⟨pb,po,none⟩)),eV b] w fun e w'=>e=.returned (.bool true)/\w'=w:=by
 obtain ⟨i,hi,hcmp⟩:=Option.map_eq_some_iff.1 isComp
 obtain ⟨j,hj,hjs⟩:=Option.map_eq_some_iff.1 isSize
 have h8:=@run_callFunc_extern Tryz.prog 178 _ Extern.ReflectliteType.typeOf Tryz.func178 (by kernel_rfl) (by kernel_rfl) (by kernel_rfl) (by kernel_rfl)
 have h32:=@run_callFunc_extern Tryz.prog 350 _ compF Tryz.func350 (by kernel_rfl) (by kernel_rfl) (by kernel_rfl) (by kernel_rfl)
 have tT:=typeOfS
 have cT:=isComparable
 have mR:=methodComparable
 have nW:=noIsP
 have uW:=hasUnwrapP
 have mU:=methodUnwrap
 have heq:=run_eql_iface_ptr_same (P:=Tryz.prog) w b Tryz.underlying31 Tryz.underlying409 hi hcmp hj
 have hty:=run_eql_iface_types (P:=Tryz.prog) 143 409 (.pointer (some ⟨pb,po,none⟩)) (.pointer (some b)) Tryz.underlying31 (by decide) w
 simp only [hS] at *
 go_enter Tryz.func123,Tryz.ntmps123
 go_wp2
 refine wp_loop_rounds 2 ?_
 rw [rounds_succ]
 go_wp2
 rw [rounds_succ]
 go_wp2
 go_ret
 exact ⟨rfl,rfl⟩
theorem is_fault_other (pb po:Nat) (b a:Addr) (ca cb:Array Value) (ta tb:TypeId) (w:World) (h1:w.cell? ⟨pb,po+1,none⟩=some (eV a)) (hne:a≠b) (ha:w.heap[a.block]? = some (.cells ca ta (0,0))) (hb:w.heap[b.block]? = some (.cells cb tb (0,0))) :
  Calls Tryz.prog 123 #[.iface 143 (.pointer (some ⟨pb,po,none⟩)),eV b] w fun e w'=>e=.returned (.bool false)/\w'=w:=by
 obtain ⟨i,hi,hcmp⟩:=Option.map_eq_some_iff.1 isComp
 obtain ⟨j,hj,hjs⟩:=Option.map_eq_some_iff.1 isSize
 have h8:=@run_callFunc_extern Tryz.prog 178 _ Extern.ReflectliteType.typeOf Tryz.func178 (by kernel_rfl) (by kernel_rfl) (by kernel_rfl) (by kernel_rfl)
 have h32:=@run_callFunc_extern Tryz.prog 350 _ compF Tryz.func350 (by kernel_rfl) (by kernel_rfl) (by kernel_rfl) (by kernel_rfl)
 have tT:=typeOfS
 have cT:=isComparable
 have mR:=methodComparable
 have nE:=noIsS
 have uE:=noUnwrapS
 have vE:=noUnwrapsS
 have nW:=noIsP
 have uW:=hasUnwrapP
 have mU:=methodUnwrap
 have heq:=run_eql_iface_ptr_other (P:=Tryz.prog) w Tryz.underlying31 Tryz.underlying409 hi hcmp hj (by rw [hjs];decide) hne ha hb
 have hty:=run_eql_iface_types (P:=Tryz.prog) 143 409 (.pointer (some ⟨pb,po,none⟩)) (.pointer (some b)) Tryz.underlying31 (by decide) w
 simp only [hS] at *
 clear ha hb hne
 go_enter Tryz.func123,Tryz.ntmps123
 go_wp2
 refine wp_loop_rounds 2 ?_
 rw [rounds_succ]
 go_wp2
 rw [rounds_succ]
 go_wp2
 go_ret
 exact ⟨rfl,rfl⟩
end
section
open Go.RowKit
structure DE (E:Nat->Addr) (w:World):Prop where
 c2:w.cell? ⟨6,0,none⟩=some (.iface 409 (.pointer (some (E 2))))
 c3:w.cell? ⟨4,0,none⟩=some (.iface 409 (.pointer (some (E 3))))
 c4:w.cell? ⟨1,0,none⟩=some (.iface 409 (.pointer (some (E 4))))
 c5:w.cell? ⟨0,0,none⟩=some (.iface 409 (.pointer (some (E 5))))
 c6:w.cell? ⟨9,0,none⟩=some (.iface 409 (.pointer (some (E 6))))
 c7:w.cell? ⟨3,0,none⟩=some (.iface 409 (.pointer (some (E 7))))
 c8:w.cell? ⟨8,0,none⟩=some (.iface 409 (.pointer (some (E 8))))
 c9:w.cell? ⟨5,0,none⟩=some (.iface 409 (.pointer (some (E 9))))
 c10:w.cell? ⟨2,0,none⟩=some (.iface 409 (.pointer (some (E 10))))
theorem DE.below {E:Nat->Addr} {w w':World} {B:Nat} (h:DE E w) (hb:Below B w w') (hB:w.heap.size<=B):DE E w' where
 c2:=(hb.cell (Nat.lt_of_lt_of_le (cell_lt3 h.c2) hB)).trans h.c2
 c3:=(hb.cell (Nat.lt_of_lt_of_le (cell_lt3 h.c3) hB)).trans h.c3
 c4:=(hb.cell (Nat.lt_of_lt_of_le (cell_lt3 h.c4) hB)).trans h.c4
 c5:=(hb.cell (Nat.lt_of_lt_of_le (cell_lt3 h.c5) hB)).trans h.c5
 c6:=(hb.cell (Nat.lt_of_lt_of_le (cell_lt3 h.c6) hB)).trans h.c6
 c7:=(hb.cell (Nat.lt_of_lt_of_le (cell_lt3 h.c7) hB)).trans h.c7
 c8:=(hb.cell (Nat.lt_of_lt_of_le (cell_lt3 h.c8) hB)).trans h.c8
 c9:=(hb.cell (Nat.lt_of_lt_of_le (cell_lt3 h.c9) hB)).trans h.c9
 c10:=(hb.cell (Nat.lt_of_lt_of_le (cell_lt3 h.c10) hB)).trans h.c10
theorem DE.ce {E:Nat->Addr} {w:World} (h:DE E w):CE E w:=⟨h.c4,h.c6,h.c7,h.c8,h.c10⟩
end
section
open Go.RowKit
set_option maxHeartbeats 4000000
set_option maxRecDepth 20000
theorem cutE_nil (M:Dm):cutE M []=M:=by funext i;simp [cutE]
theorem Remove_doc {B:Nat} {tg:Tags} {W:World} {DB MB:Nat} {p:Int->Option Nat} {M:Dm} {nx c:Nat} (hd:DocW B tg W DB MB p M nx c) (n:Int) (e q:Elm) (hn:M n=some e) (hn0:n≠0) (hq:M e.parent=some q) (hk:q.kids≠[]) (f:Nat) (hf:f<=900000) (L:List Int)
  (hp:Dp (putE M e.parent ⟨q.name,q.ats,q.parent,woL q.kids n⟩) f n) (hL:fromL (putE M e.parent ⟨q.name,q.ats,q.parent,woL q.kids n⟩) f n=L) (hin:∀ k ∈ L,putE M e.parent ⟨q.name,q.ats,q.parent,woL q.kids n⟩ k≠none) (hnd:L.Nodup) (hll:L.length<=1000000) :
  Calls Tryz.prog 12 #[.pointer (some ⟨DB,0,none⟩),.int .i64 n] W fun r w'=>r=.returned .nilIface/\KT tg W w'/\∃ tg' p',(∀ x,x<W.heap.size->tg' x=tg x)/\DocW B tg' w' DB MB p' (cutE (putE M e.parent ⟨q.name,q.ats,q.parent,woL q.kids n⟩) L) nx (c - L.length):=by
 obtain ⟨EB,va,vk,hpn,he⟩:=hd.els n e hn
 have hwn:=hd.i64 hn
 have d0:=hd.d0
 have TO:=takeOut_doc hd n e q hn hq hk
 have hn0':(n==0)=false:=by rw [beq_eq_false_iff_ne];exact hn0
 obtain ⟨M1,hM1⟩:∃ M1,putE M e.parent ⟨q.name,q.ats,q.parent,woL q.kids n⟩=M1:=⟨_,rfl⟩
 rw [hM1] at TO hp hL hin ⊢
 clear hM1
 go_enter Tryz.func12,Tryz.ntmps12
 go_upto_region 7 with (first | (at_lookup;refine look_yes _ rfl _ _ 90 rfl Tryz.underlying3 Tryz.underlying90 (zeroEl _) rfl hd.map n rfl hwn EB hpn ?_) | (go_at_call 40;refine TO.mono ?_;rintro r w1 ⟨rfl,kt1,tg1,tk1,d1⟩))
 have FR:=from_doc d1 f n hf hp hwn (by rw [hL];exact hll)
 rw [hL] at FR
 have HIN:Hid (∀ k ∈ L,M1 k≠none):=hin
 have HND:Hid L.Nodup:=hnd
 have HKT:Hid (KT tg W w1/\∀ x,x<W.heap.size->tg1 x=tg x):=⟨kt1,tk1⟩
 have hll':(L.length:Int)<=1000000:=by omega
 clear hin hnd TO hp hL
 go_wp2_with (go_at_call 41;refine FR.mono ?_;rintro r w2 ⟨o2,k2,rfl,b2,ow2⟩)
 have d2:=d1.below b2
 have HD2:Hid (DocW B tg1 w2 DB MB p M1 nx c):=d2
 have lM:MB<w1.heap.size:=d1.map.lt
 have HB2:Hid (Below w1.heap.size w1 w2):=b2
 clear d1 d2 b2 FR d0 kt1 tk1
 go_loopw [33] (fun y wr=>∃ (i:Nat) (p':Int->Option Nat),i<=L.length/\y=.int .i64 i/\w2.grownBy wr (some MB)/\DocW B tg1 wr DB MB p' (cutE M1 (L.take i)) nx (c - i)) (fun y _=>L.length - (intOf y).toNat)
 case atStart=>exact ⟨0,p,Nat.zero_le _,rfl,⟨rfl,rfl,rfl,Nat.le_refl _,fun _ _ _=>rfl⟩,by rw [List.take_zero,cutE_nil];exact HD2.out⟩
 case round=>
  obtain ⟨i,p',hi,rfl,hg,hdi⟩:=hrel
  by_cases hlt:i<L.length
  ·have hlt':(i:Int)<(L.length:Int):=by omega
   obtain ⟨k,hx, -⟩:=drop_at hlt
   obtain ⟨g,hgb,hc⟩:=row_get ow2 i _ (intsV_get hx)
   have hov:o2=some ⟨g,0,none⟩:=by
    obtain ⟨o',cap',h1, -, -, -,h2⟩:=row_slice ow2
    cases h1
    exact h2 g hgb
   subst hov
   have hgM:g≠MB:=by have:=(ow2.lt g hgb).1;omega
   have hcw:=(World.cell?_of_block (a:=⟨g,i,none⟩) (hg.block g (ow2.lt g hgb).2 (fun e1=>hgM (Option.some.inj e1)))).trans hc
   have hkm:k ∈ L:=List.mem_of_getElem? hx
   have hnk:k ∉ L.take i:=fun hm=>by
    have:=HND.out
    rw [<- List.take_append_drop i L] at this
    exact (List.nodup_append.1 this).2.2 k hm k (by
     obtain ⟨y,hy,hdr⟩:=drop_at hlt
     rw [hx] at hy
     cases hy
     rw [hdr]
     simp) rfl
   obtain ⟨fk,hfk⟩:∃ fk,cutE M1 (L.take i) k=some fk:=by
    unfold cutE
    rw [if_neg hnk]
    cases hm:M1 k with
    | none=>exact absurd hm (HIN.out k hkm)
    | some fk=>exact ⟨fk,rfl⟩
   obtain ⟨kb,ka,kk,hpk, -⟩:=hdi.els k fk hfk
   have hwk:=hdi.i64 hfk
   have d0:=hdi.d0
   have htk:cutE M1 (L.take (i+1))=delE (cutE M1 (L.take i)) k:=by
    rw [List.take_add_one,hx]
    exact cutE_snoc _ _ _
   have HTK:Hid (cutE M1 (L.take (i+1))=delE (cutE M1 (L.take i)) k):=htk
   clear htk hx hkm hnk hc hgb
   go_wp2_with (at_delete;refine strike_it _ rfl _ _ 90 3 rfl Tryz.underlying3 Tryz.underlying90 rfl hdi.map k rfl hwk kb hpk ?_;intro w3 pm3 ht3)
   have HD3:Hid (DocW B tg1 w3 DB MB (fun j=>if j=k then none else p' j) (cutE M1 (L.take (i+1))) nx (c - (i+1))):=(by rw [HTK.out,Nat.sub_add_eq];exact hdi.cut pm3 ht3:DocW B tg1 w3 DB MB (fun j=>if j=k then none else p' j) (cutE M1 (L.take (i+1))) nx (c - (i+1)))
   have hg3:w2.grownBy w3 (some MB):=hg.trans ht3.grown
   go_roundw
   case rel=>exact ⟨i+1,_,by omega,by go_num,hg3,HD3.out⟩
   case measure=>simp [intOf];omega
  ·obtain rfl:i=L.length:=by omega
   have hge:¬ (L.length:Int)<(L.length:Int):=by omega
   rw [List.take_length] at hdi
   go_wp2_with fail
   go_ret
   refine ⟨rfl,?_,tg1,HKT.out.2,p',hdi⟩
   have kt:=HKT.out.1
   have bb:=HB2.out
   refine kt.trans (tg':=tg1) ⟨hg.os.trans bb.os,hg.tape.trans bb.tape,hg.output.trans bb.output,Nat.le_trans bb.size hg.size,fun b hb ht=>?_⟩ HKT.out.2
   exact (hg.block b (Nat.lt_of_lt_of_le hb bb.size) (fun e1=>by have e2:=Option.some.inj e1;rw [e2,hdi.mtag] at ht;cases ht)).trans (bb.block b hb)
end
section
open Go.RowKit
def outE (M:Dm) (n:Int) (e o:Elm):Dm:=putE M e.parent ⟨o.name,o.ats,o.parent,woL o.kids n⟩
end
section
open Go.RowKit
theorem sub_len:∀ (K l:List Int),K.Nodup->(∀ x ∈ K,x ∈ l)->K.length<=l.length
  | [],_,_,_=>Nat.zero_le _
  | k :: K,l,h,hs=>by
    have h1:=List.nodup_cons.1 h
    have hk:=hs k (by simp)
    have h2:=sub_len K (l.erase k) h1.2 (fun x hx=>(List.mem_erase_of_ne (fun e=>h1.1 (by rw [<- e];exact hx))).2 (hs x (by simp [hx])))
    rw [List.length_erase_of_mem hk] at h2
    have:=List.length_pos_of_mem hk
    rw [List.length_cons]
    omega
end
end Go.Proofs.YtgphclgmmocdhaaGreatDoor

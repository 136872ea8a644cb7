/-
  Parts of the proof.
-/
import Derived.Test.YtjfiehbcamfdfaaGreatDoorQx3
import Derived.Test.YtjfiehbcamfdfaaGreatDoorQx13
namespace Go.Proofs.YtjfiehbcamfdfaaGreatDoor
open Go.Proofs.Tryz
section
open Go.RowKit Go.Extern.Stop Go.Stop Go.Extern
set_option maxHeartbeats 1000000
abbrev eV (a:Addr):Value:=.iface 390 (.pointer (some a))
def Jp:Array Value->Sem Value:=Extern.ReflectliteType.method fun t=>do Rtype.noPackHeld "Comparable" t;pure (.bool (<- typeInfo t).comparable)
theorem kG (w:World):(Jp #[.agg #[hS]]).run prog w=.ok (.bool true) w:=by kernel_rfl
theorem iw (v:Value)(w:World):(Go.method 530 302 v "Comparable").run prog w=.ok (332,v) w:=by kernel_rfl
theorem FQ:(prog.info? 390).map (·.comparable)=some true:=by kernel_rfl
theorem FR:(prog.info? 392).map (·.size)=some 1:=by kernel_rfl
theorem a1C (v:Value)(xT:TypeId)(w:World):(Instr.typeAssert (.iface 390 v) xT 341 true).run prog w=.ok (.tuple #[.nilIface,.bool false]) w:=run_typeAssert_lacksB underlying341 (by kernel_rfl) (by kernel_rfl) v xT w
theorem a1D (v:Value)(xT:TypeId)(w:World):(Instr.typeAssert (.iface 113 v) xT 341 true).run prog w=.ok (.tuple #[.nilIface,.bool false]) w:=run_typeAssert_lacksB underlying341 (by kernel_rfl) (by kernel_rfl) v xT w
theorem AA (v:Value)(xT:TypeId)(w:World):(Instr.typeAssert (.iface 113 v) xT 309 true).run prog w=.ok (.tuple #[.iface 113 v,.bool true]) w:=run_typeAssert_hasB underlying309 (by kernel_rfl) v xT w
theorem vF (v:Value)(w:World):(Go.method 530 113 v "Unwrap").run prog w=.ok (325,v) w:=by kernel_rfl
theorem ZJ (a:Addr)(w:World):
  ak 146 #[eV a,eV a] w fun e w'=>e=.returned (.bool true)/\w'=w:=by
 obtain⟨i,hi,hcmp⟩:=Option.map_eq_some_iff.1 FQ;obtain⟨j,hj,hjs⟩:=Option.map_eq_some_iff.1 FR;have h8:=@run_callFunc_extern prog 204 _ Extern.ReflectliteType.typeOf func204 (by kernel_rfl) (by kernel_rfl) (by kernel_rfl) (by kernel_rfl);have h32:=@run_callFunc_extern prog 332 _ Jp func332 (by kernel_rfl) (by kernel_rfl) (by kernel_rfl) (by kernel_rfl);have tT:=uO;have cT:=kG;have mR:=iw;have heq:=run_eql_iface_ptr_same (P:=prog) w a underlying33 underlying390 hi hcmp hj;simp only[hS] at*;go_enter func146,ntmps146;go_wp2;refine wp_loop_rounds 1 ?_;rw[rounds_succ];go_wp2;go_ret;exact⟨rfl,rfl⟩
theorem Vt (a b:Addr)(ca cb:Array Value)(ta tb:TypeId)(w:World)(hne:a≠b)(ha:w.heap[a.block]? =some (.cells ca ta (0,0)))(hb:w.heap[b.block]? =some (.cells cb tb (0,0))):
  ak 146 #[eV a,eV b] w fun e w'=>e=.returned (.bool false)/\w'=w:=by
 obtain⟨i,hi,hcmp⟩:=Option.map_eq_some_iff.1 FQ;obtain⟨j,hj,hjs⟩:=Option.map_eq_some_iff.1 FR;have h8:=@run_callFunc_extern prog 204 _ Extern.ReflectliteType.typeOf func204 (by kernel_rfl) (by kernel_rfl) (by kernel_rfl) (by kernel_rfl);have h32:=@run_callFunc_extern prog 332 _ Jp func332 (by kernel_rfl) (by kernel_rfl) (by kernel_rfl) (by kernel_rfl);have tT:=uO;have cT:=kG;have mR:=iw;have nE:=a1C;have uE:=wG;have vE:=tZ;have heq:=run_eql_iface_ptr_other (P:=prog) w underlying33 underlying390 hi hcmp hj (by rw[hjs];decide) hne ha hb;simp only[hS] at*;clear ha hb hne;go_enter func146,ntmps146;go_wp2;refine wp_loop_rounds 1 ?_;rw[rounds_succ];go_wp2;go_ret;exact⟨rfl,rfl⟩
theorem CO (pb po:Nat)(b:Addr)(w:World)(h1:w.cell? (ag pb (po+1))=some (eV b)):
  ak 146 #[.iface 113 (.pointer (some ⟨pb,po,none⟩)),eV b] w fun e w'=>e=.returned (.bool true)/\w'=w:=by
 obtain⟨i,hi,hcmp⟩:=Option.map_eq_some_iff.1 FQ;obtain⟨j,hj,hjs⟩:=Option.map_eq_some_iff.1 FR;have h8:=@run_callFunc_extern prog 204 _ Extern.ReflectliteType.typeOf func204 (by kernel_rfl) (by kernel_rfl) (by kernel_rfl) (by kernel_rfl);have h32:=@run_callFunc_extern prog 332 _ Jp func332 (by kernel_rfl) (by kernel_rfl) (by kernel_rfl) (by kernel_rfl);have tT:=uO;have cT:=kG;have mR:=iw;have nW:=a1D;have uW:=AA;have mU:=vF;have heq:=run_eql_iface_ptr_same (P:=prog) w b underlying33 underlying390 hi hcmp hj;have hty:=run_eql_iface_types (P:=prog) 113 390 (.pointer (some ⟨pb,po,none⟩)) (.pointer (some b)) underlying33 (by decide) w;simp only[hS] at*;go_enter func146,ntmps146;go_wp2;refine wp_loop_rounds 2 ?_;rw[rounds_succ];go_wp2;rw[rounds_succ];go_wp2;go_ret;exact⟨rfl,rfl⟩
theorem AB (pb po:Nat)(b a:Addr)(ca cb:Array Value)(ta tb:TypeId)(w:World)(h1:w.cell? (ag pb (po+1))=some (eV a))(hne:a≠b)(ha:w.heap[a.block]? =some (.cells ca ta (0,0)))(hb:w.heap[b.block]? =some (.cells cb tb (0,0))):
  ak 146 #[.iface 113 (.pointer (some ⟨pb,po,none⟩)),eV b] w fun e w'=>e=.returned (.bool false)/\w'=w:=by
 obtain⟨i,hi,hcmp⟩:=Option.map_eq_some_iff.1 FQ;obtain⟨j,hj,hjs⟩:=Option.map_eq_some_iff.1 FR;have h8:=@run_callFunc_extern prog 204 _ Extern.ReflectliteType.typeOf func204 (by kernel_rfl) (by kernel_rfl) (by kernel_rfl) (by kernel_rfl);have h32:=@run_callFunc_extern prog 332 _ Jp func332 (by kernel_rfl) (by kernel_rfl) (by kernel_rfl) (by kernel_rfl);have tT:=uO;have cT:=kG;have mR:=iw;have nE:=a1C;have uE:=wG;have vE:=tZ;have nW:=a1D;have uW:=AA;have mU:=vF;have heq:=run_eql_iface_ptr_other (P:=prog) w underlying33 underlying390 hi hcmp hj (by rw[hjs];decide) hne ha hb;have hty:=run_eql_iface_types (P:=prog) 113 390 (.pointer (some ⟨pb,po,none⟩)) (.pointer (some b)) underlying33 (by decide) w;simp only[hS] at*;clear ha hb hne;go_enter func146,ntmps146;go_wp2;refine wp_loop_rounds 2 ?_;rw[rounds_succ];go_wp2;rw[rounds_succ];go_wp2;go_ret;exact⟨rfl,rfl⟩
end
section
open Go.RowKit
structure DE (E:Nat->Addr)(w:World):Prop where
 c2:w.cell? (ag 0 0)=some (.iface 390 (.pointer (some (E 2))))
 c3:w.cell? (ag 3 0)=some (.iface 390 (.pointer (some (E 3))))
 c4:w.cell? (ag 4 0)=some (.iface 390 (.pointer (some (E 4))))
 c5:w.cell? (ag 6 0)=some (.iface 390 (.pointer (some (E 5))))
 c6:w.cell? (ag 9 0)=some (.iface 390 (.pointer (some (E 6))))
 c7:w.cell? (ag 2 0)=some (.iface 390 (.pointer (some (E 7))))
 c8:w.cell? (ag 7 0)=some (.iface 390 (.pointer (some (E 8))))
 c9:w.cell? (ag 5 0)=some (.iface 390 (.pointer (some (E 9))))
 c10:w.cell? (ag 8 0)=some (.iface 390 (.pointer (some (E 10))))
theorem DE.below {E:Nat->Addr}{w w':World}{B:Nat}(h:DE E w)(hb:Below B w w')(hB:w.heap.size<=B):DE E w' where
 c2:=(hb.cell (Nat.lt_of_lt_of_le (ax h.c2) hB)).trans h.c2
 c3:=(hb.cell (Nat.lt_of_lt_of_le (ax h.c3) hB)).trans h.c3
 c4:=(hb.cell (Nat.lt_of_lt_of_le (ax h.c4) hB)).trans h.c4
 c5:=(hb.cell (Nat.lt_of_lt_of_le (ax h.c5) hB)).trans h.c5
 c6:=(hb.cell (Nat.lt_of_lt_of_le (ax h.c6) hB)).trans h.c6
 c7:=(hb.cell (Nat.lt_of_lt_of_le (ax h.c7) hB)).trans h.c7
 c8:=(hb.cell (Nat.lt_of_lt_of_le (ax h.c8) hB)).trans h.c8
 c9:=(hb.cell (Nat.lt_of_lt_of_le (ax h.c9) hB)).trans h.c9
 c10:=(hb.cell (Nat.lt_of_lt_of_le (ax h.c10) hB)).trans h.c10
end
section
open Go.RowKit
def Up (M:Dm):Int->Nat->Prop
 |i,0=>M i=none
 |i,d+1=>∃e,M i=some e/\Up M e.parent d
end
section
abbrev dZ (n:Nd):Dm:=gz (fun _=>none) 0 (mP 0 (-1) n)
end
end Go.Proofs.YtjfiehbcamfdfaaGreatDoor

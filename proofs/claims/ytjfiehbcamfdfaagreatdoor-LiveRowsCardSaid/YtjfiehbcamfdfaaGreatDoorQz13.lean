/- Parts of the proof. -/
import Derived.Test.YtjfiehbcamfdfaaGreatDoorQz2
namespace Go.Proofs.YtjfiehbcamfdfaaGreatDoor
open Go.Proofs.Tryz
open Go.RowKit Go.Extern.Stop Go.Stop Go.Extern
set_option maxHeartbeats 1000000
abbrev eV (a:Addr):ah:=.iface 390 (.pointer (some a))
def JB:Array ah->Sem ah:=Extern.ReflectliteType.method fun t=>do Rtype.noPackHeld "Comparable" t;pure (.bool (<- typeInfo t).comparable)
theorem kz (w:ag):(JB #[.agg #[hS]]).run prog w=.ok (.bool true) w:=by kernel_rfl
theorem iD (v:ah)(w:ag):(Go.method 530 302 v "Comparable").run prog w=.ok (332,v) w:=by kernel_rfl
theorem FX:(prog.info? 390).map (·.comparable)=some true:=by kernel_rfl
theorem FY:(prog.info? 392).map (·.size)=some 1:=by kernel_rfl
theorem a1Q (v:ah)(xT:TypeId)(w:ag):(Instr.typeAssert (.iface 390 v) xT 341 true).run prog w=.ok (.tuple #[.nilIface,.bool false]) w:=run_typeAssert_lacksB underlying341 (by kernel_rfl) (by kernel_rfl) v xT w
theorem a1R (v:ah)(xT:TypeId)(w:ag):(Instr.typeAssert (.iface 113 v) xT 341 true).run prog w=.ok (.tuple #[.nilIface,.bool false]) w:=run_typeAssert_lacksB underlying341 (by kernel_rfl) (by kernel_rfl) v xT w
theorem Bb (v:ah)(xT:TypeId)(w:ag):(Instr.typeAssert (.iface 113 v) xT 309 true).run prog w=.ok (.tuple #[.iface 113 v,.bool true]) w:=run_typeAssert_hasB underlying309 (by kernel_rfl) v xT w
theorem vG (v:ah)(w:ag):(Go.method 530 113 v "Unwrap").run prog w=.ok (325,v) w:=by kernel_rfl
theorem a00 (a:Addr)(w:ag):
  ax 146 #[eV a,eV a] w fun e w'=>e=.returned (.bool true)/\w'=w:=by
 obtain⟨i,hi,hcmp⟩:=Option.map_eq_some_iff.1 FX;obtain⟨j,hj,hjs⟩:=Option.map_eq_some_iff.1 FY;have h8:=@run_callFunc_extern prog 204 _ Extern.ReflectliteType.typeOf func204 (by kernel_rfl) (by kernel_rfl) (by kernel_rfl) (by kernel_rfl);have h32:=@run_callFunc_extern prog 332 _ JB func332 (by kernel_rfl) (by kernel_rfl) (by kernel_rfl) (by kernel_rfl);have tT:=uQ;have cT:=kz;have mR:=iD;have heq:=run_eql_iface_ptr_same (P:=prog) w a underlying33 underlying390 hi hcmp hj;simp only[hS] at*;go_enter func146,ntmps146;go_wp2;refine wp_loop_rounds 1 ?_;rw[rounds_succ];go_wp2;go_ret;exact⟨rfl,rfl⟩
theorem W9 (a b:Addr)(ca cb:Array ah)(ta tb:TypeId)(w:ag)(hne:a≠b)(ha:w.heap[a.block]? =some (.cells ca ta (0,0)))(hb:w.heap[b.block]? =some (.cells cb tb (0,0))):
  ax 146 #[eV a,eV b] w fun e w'=>e=.returned (.bool false)/\w'=w:=by
 obtain⟨i,hi,hcmp⟩:=Option.map_eq_some_iff.1 FX;obtain⟨j,hj,hjs⟩:=Option.map_eq_some_iff.1 FY;have h8:=@run_callFunc_extern prog 204 _ Extern.ReflectliteType.typeOf func204 (by kernel_rfl) (by kernel_rfl) (by kernel_rfl) (by kernel_rfl);have h32:=@run_callFunc_extern prog 332 _ JB func332 (by kernel_rfl) (by kernel_rfl) (by kernel_rfl) (by kernel_rfl);have tT:=uQ;have cT:=kz;have mR:=iD;have nE:=a1Q;have uE:=wI;have vE:=tC;have heq:=run_eql_iface_ptr_other (P:=prog) w underlying33 underlying390 hi hcmp hj (by rw[hjs];decide) hne ha hb;simp only[hS] at*;clear ha hb hne;go_enter func146,ntmps146;go_wp2;refine wp_loop_rounds 1 ?_;rw[rounds_succ];go_wp2;go_ret;exact⟨rfl,rfl⟩
theorem Dh (pb po:Nat)(b:Addr)(w:ag)(h1:w.cell? (ak pb (po+1))=some (eV b)):
  ax 146 #[.iface 113 (.pointer (some ⟨pb,po,none⟩)),eV b] w fun e w'=>e=.returned (.bool true)/\w'=w:=by
 obtain⟨i,hi,hcmp⟩:=Option.map_eq_some_iff.1 FX;obtain⟨j,hj,hjs⟩:=Option.map_eq_some_iff.1 FY;have h8:=@run_callFunc_extern prog 204 _ Extern.ReflectliteType.typeOf func204 (by kernel_rfl) (by kernel_rfl) (by kernel_rfl) (by kernel_rfl);have h32:=@run_callFunc_extern prog 332 _ JB func332 (by kernel_rfl) (by kernel_rfl) (by kernel_rfl) (by kernel_rfl);have tT:=uQ;have cT:=kz;have mR:=iD;have nW:=a1R;have uW:=Bb;have mU:=vG;have heq:=run_eql_iface_ptr_same (P:=prog) w b underlying33 underlying390 hi hcmp hj;have hty:=run_eql_iface_types (P:=prog) 113 390 (.pointer (some ⟨pb,po,none⟩)) (.pointer (some b)) underlying33 (by decide) w;simp only[hS] at*;go_enter func146,ntmps146;go_wp2;refine wp_loop_rounds 2 ?_;rw[rounds_succ];go_wp2;rw[rounds_succ];go_wp2;go_ret;exact⟨rfl,rfl⟩
theorem Bc (pb po:Nat)(b a:Addr)(ca cb:Array ah)(ta tb:TypeId)(w:ag)(h1:w.cell? (ak pb (po+1))=some (eV a))(hne:a≠b)(ha:w.heap[a.block]? =some (.cells ca ta (0,0)))(hb:w.heap[b.block]? =some (.cells cb tb (0,0))):
  ax 146 #[.iface 113 (.pointer (some ⟨pb,po,none⟩)),eV b] w fun e w'=>e=.returned (.bool false)/\w'=w:=by
 obtain⟨i,hi,hcmp⟩:=Option.map_eq_some_iff.1 FX;obtain⟨j,hj,hjs⟩:=Option.map_eq_some_iff.1 FY;have h8:=@run_callFunc_extern prog 204 _ Extern.ReflectliteType.typeOf func204 (by kernel_rfl) (by kernel_rfl) (by kernel_rfl) (by kernel_rfl);have h32:=@run_callFunc_extern prog 332 _ JB func332 (by kernel_rfl) (by kernel_rfl) (by kernel_rfl) (by kernel_rfl);have tT:=uQ;have cT:=kz;have mR:=iD;have nE:=a1Q;have uE:=wI;have vE:=tC;have nW:=a1R;have uW:=Bb;have mU:=vG;have heq:=run_eql_iface_ptr_other (P:=prog) w underlying33 underlying390 hi hcmp hj (by rw[hjs];decide) hne ha hb;have hty:=run_eql_iface_types (P:=prog) 113 390 (.pointer (some ⟨pb,po,none⟩)) (.pointer (some b)) underlying33 (by decide) w;simp only[hS] at*;clear ha hb hne;go_enter func146,ntmps146;go_wp2;refine wp_loop_rounds 2 ?_;rw[rounds_succ];go_wp2;rw[rounds_succ];go_wp2;go_ret;exact⟨rfl,rfl⟩
end Go.Proofs.YtjfiehbcamfdfaaGreatDoor

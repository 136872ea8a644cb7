/-
  Parts of the proof.
-/
import Derived.Test.YtgphclgmmocdhaaGreatDoorQu4
namespace Go.Proofs.YtgphclgmmocdhaaGreatDoor
open Go.RowKit
set_option maxHeartbeats 2000000
theorem run_store_func_m (P:Program) (w:World) (a:Addr) (m:Mode) (f:Fn) (x y:Array Value):(store a (.func f x y) m).run P w=stored P w a (.func f x y) m:=run_store P w a _ m rfl
attribute [local go_sem] run_store_func_m
abbrev bMove:ByteArray:=⟨#[109,111,118,101]⟩
abbrev bScale:ByteArray:=⟨#[115,99,97,108,101]⟩
abbrev bTurn:ByteArray:=⟨#[116,117,114,110]⟩
abbrev bSkew:ByteArray:=⟨#[115,107,101,119]⟩
theorem ofFracs_any (k:Nat) (W:World):Calls Tryz.prog 266 #[.func (.func k) #[] #[]] W fun e w'=>e=.returned (.func (.func 301) #[] #[.pointer (some ⟨W.heap.size,0,none⟩)])/\w'=W.alloc (.cells #[.func (.func k) #[] #[]] 353):=by
 have hmf:∀ (fn:Fn) (first cap:Array Value) (w:World),(Instr.makeFunc fn first cap).run Tryz.prog w=.ok (.func fn first cap) w:=fun _ _ _ _=>rfl
 go_enter Tryz.func266,Tryz.ntmps266
 go_wp2
 go_ret
 exact ⟨rfl,rfl⟩
theorem kindOf_move (W:World):Calls Tryz.prog 221 #[.string bMove] W fun e w'=>(∃ B,W.heap.size<=B/\e=.returned (.tuple #[.agg #[.int .i64 2,.func (.func 301) #[] #[.pointer (some ⟨B,0,none⟩)]],.bool true])/\w'.cell? ⟨B,0,none⟩=some (.func (.func 267) #[] #[]))/\Below W.heap.size W w':=by
 have HO:=ofFracs_any
 go_enter Tryz.func221,Tryz.ntmps221
 go_wp2_with (go_at_call 266;refine (HO _ _).mono ?_;rintro e w1 ⟨rfl,rfl⟩)
 refine bodyPost_ret (v:=.tuple #[.agg #[.int .i64 2,.func (.func 301) #[] #[.pointer (some ⟨W.heap.size+1,0,none⟩)]],.bool true]) (by simp [results,Tryz.results221,go_sem]) rfl ⟨⟨W.heap.size+1,by omega,rfl,cell_at (by simp) rfl⟩,?_⟩
 exact ((Below.refl _ W).alloc Nat.le.refl _).alloc (by simp) _
theorem kindOf_scale (W:World):Calls Tryz.prog 221 #[.string bScale] W fun e w'=>(∃ B,W.heap.size<=B/\e=.returned (.tuple #[.agg #[.int .i64 2,.func (.func 301) #[] #[.pointer (some ⟨B,0,none⟩)]],.bool true])/\w'.cell? ⟨B,0,none⟩=some (.func (.func 268) #[] #[]))/\Below W.heap.size W w':=by
 have HO:=ofFracs_any
 go_enter Tryz.func221,Tryz.ntmps221
 go_wp2_with (go_at_call 266;refine (HO _ _).mono ?_;rintro e w1 ⟨rfl,rfl⟩)
 refine bodyPost_ret (v:=.tuple #[.agg #[.int .i64 2,.func (.func 301) #[] #[.pointer (some ⟨W.heap.size+1,0,none⟩)]],.bool true]) (by simp [results,Tryz.results221,go_sem]) rfl ⟨⟨W.heap.size+1,by omega,rfl,cell_at (by simp) rfl⟩,?_⟩
 exact ((Below.refl _ W).alloc Nat.le.refl _).alloc (by simp) _
theorem kindOf_skew (W:World):Calls Tryz.prog 221 #[.string bSkew] W fun e w'=>(∃ B,W.heap.size<=B/\e=.returned (.tuple #[.agg #[.int .i64 1,.func (.func 301) #[] #[.pointer (some ⟨B,0,none⟩)]],.bool true])/\w'.cell? ⟨B,0,none⟩=some (.func (.func 270) #[] #[]))/\Below W.heap.size W w':=by
 have HO:=ofFracs_any
 go_enter Tryz.func221,Tryz.ntmps221
 go_wp2_with (go_at_call 266;refine (HO _ _).mono ?_;rintro e w1 ⟨rfl,rfl⟩)
 refine bodyPost_ret (v:=.tuple #[.agg #[.int .i64 1,.func (.func 301) #[] #[.pointer (some ⟨W.heap.size+1,0,none⟩)]],.bool true]) (by simp [results,Tryz.results221,go_sem]) rfl ⟨⟨W.heap.size+1,by omega,rfl,cell_at (by simp) rfl⟩,?_⟩
 exact ((Below.refl _ W).alloc Nat.le.refl _).alloc (by simp) _
theorem kindOf_turn (W:World):Calls Tryz.prog 221 #[.string bTurn] W fun e w'=>e=.returned (.tuple #[.agg #[.int .i64 1,.func (.func 269) #[] #[]],.bool true])/\Below W.heap.size W w':=by
 go_enter Tryz.func221,Tryz.ntmps221
 go_wp2
 refine bodyPost_ret (v:=.tuple #[.agg #[.int .i64 1,.func (.func 269) #[] #[]],.bool true]) (by simp [results,Tryz.results221,go_sem]) rfl ⟨rfl,?_⟩
 exact (Below.refl _ W).alloc Nat.le.refl _
end Go.Proofs.YtgphclgmmocdhaaGreatDoor

/-
  Parts of the proof.
-/
import Derived.Test.YtgphclgmmocdhaaGreatDoorQu17
namespace Go.Proofs.YtgphclgmmocdhaaGreatDoor
section
open Go.RowKit
set_option maxHeartbeats 2000000
theorem intsV_one (l:List Int):∀ u ∈ intsV l,u.oneCell'=true:=fun u hu=>by
 unfold intsV at hu
 obtain ⟨k,_,rfl⟩:=List.mem_map.1 hu
 rfl
theorem CloneI {B:Nat} (w:World) (v:Value) (L:List Int) (h:w.ownsRow B 3 1 v L.length (intsV L)) (hl:L.length<=1000000) :
  Calls Tryz.prog 102 #[v] w fun e w'=>∃ o k,e=.returned (.slice o L.length k)/\w'.ownsRow w.heap.size 3 1 (.slice o L.length k) L.length (intsV L)/\Below w.heap.size w w':=by
 have q22:∀ (w:World) (a:Option Addr) (n c n' c':Nat),(binOp .eql 72 (.slice a n c) (.slice none n' c')).run Tryz.prog w=.ok (.bool a.isNone) w:=fun w a n c n' c'=>Lib.run_eql_slice_nil w _ _ a n c n' c' Tryz.underlying72
 obtain ⟨i0,hi,hz0,hz1,hz2⟩:=info_parts intInfo
 have HN0:∀ g cap,v=.slice (some ⟨g,0,none⟩) L.length cap->∀ j u,(intsV L)[j]? = some u->w.cell? ((⟨g,0,none⟩:Addr).add j)=some u:=fun g cap hv j u hu=>by
  obtain ⟨g',hg,hc⟩:=row_get h j u hu
  rw [hv] at hg
  have hadd:(⟨g,0,none⟩:Addr).add j=⟨g,0+j,none⟩:=by unfold Addr.add;split <;> simp_all
  cases hg
  rw [hadd,Nat.zero_add]
  exact hc
 rcases h.2 with ⟨rfl,hn⟩ | ⟨g,cap,cur,rfl,_,_,h1,h2,_,_⟩
 ·have hz:L=[]:=List.length_eq_zero_iff.1 hn
  subst hz
  go_enter Tryz.func102,Tryz.ntmps102
  go_wp2_with fail
  go_ret
  exact ⟨none,0,rfl,World.ownsRow_nil _ _ _ _,Below.refl _ _⟩
 ·have HN:Hid (∀ j u,(intsV L)[j]? = some u->w.cell? ((⟨g,0,none⟩:Addr).add j)=some u):=HN0 g cap rfl
  have HO:Hid (∀ u ∈ intsV L,u.oneCell'=true):=intsV_one L
  clear HN0
  go_enter Tryz.func102,Tryz.ntmps102
  go_wp2_with (at_builtin;refine wpList_append_own _ rfl _ _ 72 rfl w.heap.size 3 i0 (.int .i64 0) 1 8 Tryz.underlying72 hi hz0 hz1 hz2 rfl (by decide) _ _ _ rfl (World.ownsRow_made w #[] 0 Nat.le.refl (Nat.zero_le _) (by simp)) ⟨g,0,none⟩ L.length cap (intsV L) rfl (by rw [intsV_len,Nat.mul_one]) (fun j u hj=>mcell_al _ (HN.out j u hj)) HO.out (by rw [maxLen_eq];omega) (by omega) (by simp) ?_;intro v7 w7 ow7 gr7 _;obtain ⟨o7,cap7,rfl⟩:=own_slice ow7)
  go_ret
  rw [Nat.zero_add,List.nil_append] at ow7
  exact ⟨o7,cap7,rfl,ow7,((Below.refl _ w).alloc Nat.le.refl _).grown gr7 (by simp) (fun k hk=>by have hk':some w.heap.size=some k:=hk;cases hk';exact Nat.le_refl _)⟩
def kidsD (M:Dm) (n:Int):List Int:=match M n with | none=>[] | some e=>e.kids
theorem Kids_doc {B:Nat} {tg:Tags} {w:World} {DB MB:Nat} {p:Int->Option Nat} {M:Dm} {nx c:Nat} (h:DocW B tg w DB MB p M nx c) (n:Int) (hn:Wf64 n) (hl:(kidsD M n).length<=1000000) :
  Calls Tryz.prog 170 #[.pointer (some ⟨DB,0,none⟩),.int .i64 n] w fun r w'=>∃ o k,r=.returned (.slice o (kidsD M n).length k)/\w'.ownsRow w.heap.size 3 1 (.slice o (kidsD M n).length k) (kidsD M n).length (intsV (kidsD M n))/\Below w.heap.size w w':=by
 have d0:=h.d0
 unfold kidsD at hl ⊢
 cases hm:M n with
 | none=>
  have hp:=h.non n hm
  go_enter Tryz.func170,Tryz.ntmps170
  go_wp2_with (at_lookup;refine look_no _ rfl _ _ 90 rfl Tryz.underlying3 Tryz.underlying90 (zeroEl _) rfl h.map n rfl hn hp ?_)
  go_ret
  exact ⟨none,0,rfl,World.ownsRow_nil _ _ _ _,Below.refl _ _⟩
 | some e=>
  rw [hm] at hl
  obtain ⟨b,va,vk,hp,he⟩:=h.els n e hm
  have x0:=he.c3
  obtain ⟨ok,kk,rfl⟩:=own_slice he.kids
  have CL:=CloneI w _ e.kids he.kids hl
  go_enter Tryz.func170,Tryz.ntmps170
  go_wp2_with (first | (at_lookup;refine look_yes _ rfl _ _ 90 rfl Tryz.underlying3 Tryz.underlying90 (zeroEl _) rfl h.map n rfl hn b hp ?_) | (go_at_call 102;refine CL.mono ?_;rintro e1 w1 ⟨o1,k1,rfl,ho1,hb1⟩))
  go_ret
  exact ⟨o1,k1,rfl,ho1,hb1⟩
theorem All_doc {B:Nat} {tg:Tags} {W:World} {DB MB:Nat} {p:Int->Option Nat} {M:Dm} {nx c:Nat} (hd:DocW B tg W DB MB p M nx c) (f:Nat) (hf:f<=900000) (hp:Dp M f 0) (hl:(fromL M f 0).length<=1000000) :
  Calls Tryz.prog 219 #[.pointer (some ⟨DB,0,none⟩)] W fun e w'=>∃ o k,e=.returned (.slice o (fromL M f 0).length k)/\Below W.heap.size W w'/\w'.ownsRow (W.heap.size+1) 3 1 (.slice o (fromL M f 0).length k) (fromL M f 0).length (intsV (fromL M f 0)):=by
 have FD:=from_doc hd f 0 hf hp (by decide) hl
 go_enter Tryz.func219,Tryz.ntmps219
 go_wp2_with (go_at_call 41;refine FD.mono ?_;rintro e1 w1 ⟨o1,k1,rfl,hb1,ho1⟩)
 go_ret
 exact ⟨o1,k1,rfl,hb1,ho1⟩
end
section
open Go.RowKit
theorem sub_len:∀ (K l:List Int),K.Nodup->(∀ x ∈ K,x ∈ l)->K.length<=l.length
 | [],_,_,_=>Nat.zero_le _
 | k :: K,l,h,hs=>by
  have h1:=List.nodup_cons.1 h
  have hk:=hs k (by simp)
  have h2:=sub_len K (l.erase k) h1.2 (fun x hx=>(List.mem_erase_of_ne (fun e=>h1.1 (by rw [<- e];exact hx))).2 (hs x (by simp [hx])))
  rw [List.length_erase_of_mem hk] at h2
  have:=List.length_pos_of_mem hk
  rw [List.length_cons]
  omega
end
end Go.Proofs.YtgphclgmmocdhaaGreatDoor

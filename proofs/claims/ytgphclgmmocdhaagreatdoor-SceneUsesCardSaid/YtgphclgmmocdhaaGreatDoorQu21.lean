/-
  Parts of the proof.
-/
import Derived.Test.YtgphclgmmocdhaaGreatDoorQu13
import Derived.Deep.AppendLies
namespace Go.Proofs.YtgphclgmmocdhaaGreatDoor
section
open Go.RowKit
set_option maxHeartbeats 1000000
attribute [local go_sem] run_store_func_m
theorem split_any (s:ByteArray) (hs:s.size<4294967281) (W:World) :
  Calls Tryz.prog 217 #[.string s,.string ⟨#[32]⟩] W fun e w'=>e=.returned (.slice (some ⟨W.heap.size,0,none⟩) (Lib.countB s ⟨#[32]⟩+1) (Lib.countB s ⟨#[32]⟩+1))/\w'=W.alloc (.cells ((Lib.splitB ⟨#[32]⟩ 0 (Lib.countB s ⟨#[32]⟩) s).map Value.string).toArray 9):=by
 have h1:1<=(⟨#[32]⟩:ByteArray).size:=by decide
 have hle:=Lib.countB_le ⟨#[32]⟩ h1 s.size s Nat.le.refl
 have hlen:=Lib.splitB_all ⟨#[32]⟩ h1 0 _ s rfl
 have c:=Any.strings_genSplit_core Tryz.lays221 (by kernel_rfl) s ⟨#[32]⟩ 0 (-1) (Lib.countB s ⟨#[32]⟩+1) W hs h1 (Nat.zero_le _)
  (fun x c _=>(Any.strings_Index_one Tryz.lays143 x 32 _).mono fun e w' ⟨he,hw⟩=>⟨by rw [he,<- Lib.index_one],hw⟩)
  ((Any.strings_Count_one Tryz.lays138 s 32 W).mono fun e w' ⟨he,hw⟩=>⟨by rw [he];show _=Ending.returned (Value.int .i64 ((Lib.count s.data.toList [32]:Nat):Int));rw [Lib.count_one];rfl,hw⟩)
  (by decide) (by decide) (by rw [if_pos (by decide)];omega)
 rw [Nat.add_sub_cancel,hlen] at c
 have e2:Lib.cellsOf (Lib.splitB ⟨#[32]⟩ 0 (Lib.countB s ⟨#[32]⟩) s) (Lib.countB s ⟨#[32]⟩+1)=((Lib.splitB ⟨#[32]⟩ 0 (Lib.countB s ⟨#[32]⟩) s).map Value.string).toArray:=by rw [<- hlen];exact Lib.cellsOf_full _
 rw [e2] at c
 go_enter Tryz.func217,Tryz.ntmps217
 go_wp2_with (go_at_call 265;refine c.mono ?_;rintro e w' ⟨rfl,hw⟩;rw [hw])
 go_ret
 exact ⟨rfl,rfl⟩
theorem put_low {R:Nat}:∀ (vs:List Value) (o:Nat) (w:World) (j:Nat),j<o->(put w R o vs).cell? ⟨R,j,none⟩=w.cell? ⟨R,j,none⟩
 | [],_,_,_,_=>rfl
 | v :: vs,o,w,j,h=>(put_low vs (o+1) _ j (by omega)).trans (World.cell?_setCell_other _ _ _ _ (by intro e;have:=congrArg Addr.off e;simp only at this;omega))
theorem put_at {R:Nat}:∀ (vs:List Value) (o:Nat) (w:World),(∀ i,i<vs.length->(w.cell? ⟨R,o+i,none⟩).isSome=true)->∀ j u,vs[j]? = some u->(put w R o vs).cell? ⟨R,o+j,none⟩=some u
 | [],_,_,_,j,u,h=>by simp at h
 | v :: vs,o,w,hw,0,u,h=>by
  simp at h;subst h
  exact (put_low vs (o+1) _ o (by omega)).trans (World.cell?_setCell_same' _ _ _ (hw 0 (by simp)))
 | v :: vs,o,w,hw,j+1,u,h=>by
  have:=put_at vs (o+1) (w.setCell ⟨R,o,none⟩ v) (fun i hi=>by
   rw [World.cell?_setCell_other _ _ _ _ (by intro e;have:=congrArg Addr.off e;simp only at this;omega)]
   have:=hw (i+1) (by simp;omega)
   rwa [show o+(i+1)=o+1+i by omega] at this) j u (by simpa using h)
  rw [show o+(j+1)=o+1+j by omega]
  exact this
theorem undrew {B:Nat} {w u:World} (h:Below B w.drew u):Below B w u:=⟨h.os,h.tape,h.output,h.size,h.block⟩
theorem list_at {cs:List Value} {w:World} {t:TypeId}:∀ j u,cs[j]? = some u->(w.alloc (.cells cs.toArray t)).cell? ⟨w.heap.size,j,none⟩=some u:=fun j u h=>cell_at rfl (by simpa using h)
theorem blk_some {w:World} {R:Nat} {cs:Array Value} {t:TypeId} (h:Blk w R cs t):∀ i,i<cs.size->(w.cell? ⟨R,0+i,none⟩).isSome=true:=fun i hi=>by
 rw [h.cell (0+i) cs[i] (by simp [hi])];rfl
theorem keep_b {w u:World} {Q:Nat} {a b:Value} (hb:Below w.heap.size w u) (h:w.cell? ⟨Q,0,none⟩=some a/\w.cell? ⟨Q,1,none⟩=some b):u.cell? ⟨Q,0,none⟩=some a/\u.cell? ⟨Q,1,none⟩=some b:=⟨(hb.cell (p:=⟨Q,0,none⟩) (cell_lt h.1)).trans h.1,(hb.cell (p:=⟨Q,1,none⟩) (cell_lt h.2)).trans h.2⟩
theorem blk_after {w u:World} {cs:Array Value} {t:TypeId} (hb:Below (w.alloc (.cells cs t)).drew.heap.size (w.alloc (.cells cs t)).drew u):Blk u w.heap.size cs t:=Blk.below (w:=(w.alloc (.cells cs t)).drew) ⟨(Blk.new w cs t).h⟩ hb Nat.le.refl
theorem infoMove:(Tryz.prog.info? 113).map (fun i=>(i.zero,i.size,i.bytes))=some (some (.agg #[.int .i64 0,.int .i64 0,.int .i64 0,.int .i64 0,.int .i64 0,.int .i64 0,.int .i64 0,.int .i64 0,.int .i64 0,.int .i64 0,.int .i64 0,.int .i64 0]),12,96):=by kernel_rfl
theorem one12 {m:Mv}:∀ u ∈ [Value.int .i64 m.a.n,.int .i64 m.a.d,.int .i64 m.b.n,.int .i64 m.b.d,.int .i64 m.c.n,.int .i64 m.c.d,.int .i64 m.d.n,.int .i64 m.d.d,.int .i64 m.e.n,.int .i64 m.e.d,.int .i64 m.f.n,.int .i64 m.f.d],u.oneCell'=true:=fun u hu=>by
 simp at hu;rcases hu with rfl | rfl | rfl | rfl | rfl | rfl | rfl | rfl | rfl | rfl | rfl | rfl <;> rfl
end
section
open Go.RowKit Go.Shelf
attribute [local go_sem] Oper.semAt_some
def camePre (n j:Nat):List Nat:=(List.range (n - 1 - j)).map (fun k=>n - 1 - k)
theorem camePre_succ {n j:Nat} (h:j<n):camePre n j++[j]=(List.range (n - j)).map (fun k=>n - 1 - k):=by
 unfold camePre
 rw [show n - j=n - 1 - j+1 by omega,List.range_succ,List.map_append]
 simp;omega
theorem camePre_len (n j:Nat):(camePre n j).length=n - 1 - j:=by simp [camePre]
def cameAll (n:Nat):List Nat:=(List.range n).map (fun k=>n - 1 - k)
theorem camePre_next {n j:Nat} (h:j+1<n):camePre n (j+1)++[j+1]=camePre n j:=by
 rw [camePre_succ h,camePre,show n - (j+1)=n - 1 - j by omega]
theorem camePre_last {n:Nat} (h:0<n):camePre n 0++[0]=cameAll n:=by rw [camePre_succ h,cameAll];rfl
theorem camePre_prefix {n j:Nat} (h:j<n):camePre n j++[j] <+: cameAll n:=by
 rw [camePre_succ h,cameAll]
 refine List.IsPrefix.map _ ?_
 refine ⟨(List.range j).map (fun k=>(n - j)+k),?_⟩
 rw [show List.range n=List.range ((n - j)+j) by congr 1;omega,List.range_add]
abbrev itemM (m:Mv) (j:Nat):Array Value:=#[.int .i64 j,.agg #[.int .i64 m.a.n,.int .i64 m.a.d,.int .i64 m.b.n,.int .i64 m.b.d,.int .i64 m.c.n,.int .i64 m.c.d,.int .i64 m.d.n,.int .i64 m.d.d,.int .i64 m.e.n,.int .i64 m.e.d,.int .i64 m.f.n,.int .i64 m.f.d]]
theorem backward_any (v:Value) (a:Option Addr) (n c:Nat) (hv:v=.slice a n c) (W:World):Calls Tryz.prog 173 #[v] W fun e w'=>e=.returned (.func (.func 222) #[] #[.pointer (some ⟨W.heap.size,0,none⟩)])/\w'=W.alloc (.cells #[v] 247):=by
 subst hv
 have hmf:∀ (fn:Fn) (first cap:Array Value) (w:World),(Instr.makeFunc fn first cap).run Tryz.prog w=.ok (.func fn first cap) w:=fun _ _ _ _=>rfl
 go_enter Tryz.func173,Tryz.ntmps173
 go_wp2
 go_ret
 exact ⟨rfl,rfl⟩
end
section
open Go.RowKit Go.Shelf
attribute [local go_sem] Oper.semAt_some
structure KeepX (E A n₀:Nat) (W W':World):Prop where
 block:∀ k,k<n₀->k≠E->k≠A->W'.heap[k]? = W.heap[k]?
theorem KeepX.refl (E A n₀:Nat) (W:World):KeepX E A n₀ W W:=⟨fun _ _ _ _=>rfl⟩
theorem KeepX.trans {E A n₀:Nat} {X Y Z:World} (h:KeepX E A n₀ X Y) (k:KeepX E A n₀ Y Z):KeepX E A n₀ X Z:=⟨fun i h1 h2 h3=>(k.block i h1 h2 h3).trans (h.block i h1 h2 h3)⟩
theorem KeepX.of_below {E A n₀:Nat} {X Y:World} (h:Below X.heap.size X Y) (hn:n₀<=X.heap.size):KeepX E A n₀ X Y:=⟨fun i h1 _ _=>h.block i (by omega)⟩
theorem KeepX.setE {E A n₀:Nat} {X Y:World} (h:KeepX E A n₀ X Y) (o:Nat) (v:Value):KeepX E A n₀ X (Y.setCell ⟨E,o,none⟩ v):=⟨fun i h1 h2 h3=>(Below.heap_setCell _ _ _ i h2).trans (h.block i h1 h2 h3)⟩
theorem KeepX.putA {E A n₀:Nat} {X:World}:∀ (vs:List Value) (o:Nat) {Y:World},KeepX E A n₀ X Y->KeepX E A n₀ X (put Y A o vs)
 | [],_,_,h=>h
 | _ :: vs,o,_,h=>KeepX.putA vs (o+1) ⟨fun i h1 h2 h3=>(Below.heap_setCell _ _ _ i h3).trans (h.block i h1 h2 h3)⟩
theorem KeepX.put {E A n₀:Nat} (W:World) (l:Nat) (o':Obj) (hl:n₀<=l):KeepX E A n₀ W (W.putObj l o'):=⟨fun i h1 _ _=>World.putObj_heap_other (by omega)⟩
theorem isSome_of {α:Type} {o:Option α} {v:α} (h:o=some v):o.isSome=true:=by rw [h];rfl
theorem put_keeps:∀ (vs:List Value) (o R:Nat) (W:World),KeepsOthers W (put W R o vs)
 | [],_,_,W=>KeepsOthers.refl W
 | _ :: vs,o,R,W=>(KeepsOthers.setCell W _ _).trans (put_keeps vs (o+1) R _)
def Open12 (W:World) (R:Nat) (vs:List Value):Prop:=vs.length=12/\(∀ i u,vs[i]? = some u->W.cell? ⟨R,i,none⟩=some u)/\(∀ i,i<12->W.frozen? ⟨R,i,none⟩=false)
theorem Open12.of_blk {W:World} {R:Nat} {vs:List Value} {t:TypeId} (h:Blk W R vs.toArray t) (hl:vs.length=12):Open12 W R vs:=
 ⟨hl,fun i u hu=>h.cell i u (by simpa using hu),fun i hi=>h.froz i vs[i] (by simp [hl ▸ hi])⟩
theorem frozen_put {p:Addr}:∀ (vs:List Value) (o R:Nat) (W:World),(put W R o vs).frozen? p=W.frozen? p
 | [],_,_,_=>rfl
 | _ :: vs,o,R,_=>(frozen_put vs (o+1) R _).trans (World.frozen?_setCell _ _ _ _)
theorem Open12.put {W:World} {R:Nat} {vs us:List Value} (h:Open12 W R vs) (hl:us.length=12):Open12 (put W R 0 us) R us:=by
 refine ⟨hl,fun i u hu=>?_,fun i hi=>(frozen_put us 0 R W).trans (h.2.2 i hi)⟩
 have:=put_at (R:=R) us 0 W (fun i hi=>by rw [Nat.zero_add,h.2.1 i (vs[i]'(by rw [h.1];omega)) (by simp)];rfl) i u hu
 rwa [Nat.zero_add] at this
theorem Open12.set_other {W:World} {R E o:Nat} {vs:List Value} {v:Value} (h:Open12 W R vs) (hE:R≠E):Open12 (W.setCell ⟨E,o,none⟩ v) R vs:=
 ⟨h.1,fun i u hu=>(World.cell?_setCell_far _ _ _ _ (fun e=>hE e.symm)).trans (h.2.1 i u hu),fun i hi=>(World.frozen?_setCell _ _ _ _).trans (h.2.2 i hi)⟩
theorem Open12.put_other {W:World} {R R':Nat} {vs us:List Value} (h:Open12 W R vs) (hE:R≠R'):Open12 (Go.Proofs.YtgphclgmmocdhaaGreatDoor.put W R' 0 us) R vs:=
 ⟨h.1,fun i u hu=>(put_cell (p:=⟨R,i,none⟩) hE us 0 W).trans (h.2.1 i u hu),fun i hi=>(frozen_put us 0 R' W).trans (h.2.2 i hi)⟩
theorem Open12.kept {W W':World} {R:Nat} {vs:List Value} {row:Option Nat} (h:Open12 W R vs) (hg:W.grownBy W' row) (hr:∀ r,row=some r->∃ o:Obj,W.heap[r]? = some o/\o.isCells=false):Open12 W' R vs:=
 ⟨h.1,fun i u hu=>cell_kept (h.2.1 i u hu) hg hr,fun i hi=>by
  have:=h.2.1 i (vs[i]'(by rw [h.1];omega)) (by simp)
  exact (frozen_kept this hg hr).trans (h.2.2 i hi)⟩
theorem Open12.below {W W':World} {R:Nat} {vs:List Value} (h:Open12 W R vs) (hb:Below W.heap.size W W'):Open12 W' R vs:=
 ⟨h.1,fun i u hu=>(hb.cell (cell_lt (h.2.1 i u hu))).trans (h.2.1 i u hu),fun i hi=>by
  have:=h.2.1 i (vs[i]'(by rw [h.1];omega)) (by simp)
  exact (hb.frozen (p:=⟨R,i,none⟩) (cell_lt this)).trans (h.2.2 i hi)⟩
end
section
open Go.RowKit
structure E4 (aT aB aS:Addr) (w:World):Prop where
 e3:E3 aB aS aB w
 t:w.cell? ⟨7,0,none⟩=some (.iface 409 (.pointer (some aT)))
theorem E4.below {aT aB aS:Addr} {w w':World} {B:Nat} (h:E4 aT aB aS w) (hb:Below B w w') (hB:w.heap.size<=B):E4 aT aB aS w':=⟨h.e3.below hb hB,(hb.cell (Nat.lt_of_lt_of_le (cell_lt h.t) hB)).trans h.t⟩
theorem ok_all {m:Mv} (h:m.ok):m.i64:=⟨ok_i64 h.1,ok_i64 h.2.1,ok_i64 h.2.2.1,ok_i64 h.2.2.2.1,ok_i64 h.2.2.2.2.1,ok_i64 h.2.2.2.2.2⟩
end
end Go.Proofs.YtgphclgmmocdhaaGreatDoor

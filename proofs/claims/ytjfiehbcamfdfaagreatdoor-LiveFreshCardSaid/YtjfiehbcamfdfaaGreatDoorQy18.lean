/-
  Parts of the proof.
-/
import Derived.Test.YtjfiehbcamfdfaaGreatDoorQy13
namespace Go.Proofs.YtjfiehbcamfdfaaGreatDoor
open Go.Proofs.Tryz
section
open Go.RowKit Go.Shelf
abbrev bV (s:Bs):Value:=.string ⟨s.toArray⟩
theorem eH (s l:Bs):((⟨s.toArray⟩:ByteArray).toList==l)=(s==l):=by
 rw[ByteArray.toList_eq]
end
section
open Go.RowKit Go.Shelf
attribute [local go_sem] Oper.semAt_some
theorem vM (W:World)(o1 o2 o3:Obj):(((W.alloc o1).alloc o2).alloc o3).heap[W.heap.size]? =some o1/\(((W.alloc o1).alloc o2).alloc o3).heap[W.heap.size+1]? =some o2/\(((W.alloc o1).alloc o2).alloc o3).heap[W.heap.size+1+1]? =some o3/\(((W.alloc o1).alloc o2).alloc o3).heap.size=W.heap.size+3/\Below W.heap.size W (((W.alloc o1).alloc o2).alloc o3):=by
 have s1:(W.alloc o1).heap.size=W.heap.size+1:=World.size_alloc W o1;have s2:((W.alloc o1).alloc o2).heap.size=W.heap.size+1+1:=by rw[World.size_alloc,s1]
 have n1:=World.alloc_heap_new W o1;have n2:=World.alloc_heap_new (W.alloc o1) o2;have n3:=World.alloc_heap_new ((W.alloc o1).alloc o2) o3;rw[s1] at n2;rw[s2] at n3;refine⟨(Below.heap_alloc _ _ _ (by rw[s2];omega)).trans ((Below.heap_alloc _ _ _ (by rw[s1];omega)).trans n1),(Below.heap_alloc _ _ _ (by rw[s2];omega)).trans n2,n3,by rw[World.size_alloc,s2],?_⟩;exact(((Below.refl W.heap.size W).alloc eU _).alloc (by rw[s1];omega) _).alloc (by rw[s2];omega) _
theorem qQ {w:World}{b:Nat}{v:Value}{t:TypeId}(h:w.heap[b]? =some (.cells #[v] t)):w.cell? (ag b 0)=some v:=by simp[World.cell?,h]
end
section
open Go.RowKit Go.Shelf
attribute [local go_sem] Oper.semAt_some
theorem OZ {A C:World}(h:Below A.heap.size A C){k:Nat}{o:Obj}(ho:A.heap[k]? =some o):C.heap[k]? =some o:=(h.block k (Array.getElem?_eq_some_iff.1 ho).1).trans ho
end
section
open Go.RowKit Go.Shelf
set_option maxHeartbeats 1000000
theorem ym (s:Bs)(w:World):ak 94 #[bV s] w fun e w'=>e=.returned (bV (firstM s))/\w'=w:=by
 have h0:=eH s [102,105,108,108];have h1:=eH s [115,104,111,119];have h2:=eH s [114,117,108,101];have h3:=eH s [108,101,118,101,108];unfold firstM sJ eX uQ oC;cases ha:(s==[102,105,108,108]) with
 |true=>
  rw[ha] at h0;rw[if_pos (by simpa using ha)];clear h1 h2 h3;go_enter func94,ntmps94;go_wp2_with fail;go_ret;exact⟨rfl,rfl⟩
 |false=>
  rw[ha] at h0;rw[if_neg (by simpa using ha)];cases hb:(s==[115,104,111,119]) with
  |true=>
   rw[hb] at h1;rw[if_pos (by simpa using hb)];clear h2 h3;go_enter func94,ntmps94;go_wp2_with fail;go_ret;exact⟨rfl,rfl⟩
  |false=>
   rw[hb] at h1;rw[if_neg (by simpa using hb)];cases hc:(s==[114,117,108,101]) with
   |true=>
    rw[hc] at h2;rw[if_pos (by simpa using hc)];clear h3;go_enter func94,ntmps94;go_wp2_with fail;go_ret;exact⟨rfl,rfl⟩
   |false=>
    rw[hc] at h2;rw[if_neg (by simpa using hc)];cases hd:(s==[108,101,118,101,108]) with
    |true=>
     rw[hd] at h3;rw[if_pos (by simpa using hd)];go_enter func94,ntmps94;go_wp2_with fail;go_ret;exact⟨rfl,rfl⟩
    |false=>
     rw[hd] at h3;rw[if_neg (by simpa using hd)];go_enter func94,ntmps94;go_wp2_with fail;go_ret;exact⟨rfl,rfl⟩
theorem JD (s:Bs)(w:World):ak 79 #[bV s] w fun e w'=>e=.returned (.bool (a1P s))/\w'=w:=by
 have FO:=ym s w;unfold a1P;obtain⟨x,hx⟩:∃x,firstM s=x:=⟨_,rfl⟩;rw[hx] at FO⊢;clear hx;have h0:=eH x [];unfold bne;cases ha:(x==[]) with
 |true=>
  rw[ha] at h0;go_enter func79,ntmps79;go_wp2_with(go_at_call 94;refine FO.mono ?_;rintro e w1 ⟨rfl,h⟩;rw[h];clear h);go_ret;exact⟨rfl,rfl⟩
 |false=>
  rw[ha] at h0;go_enter func79,ntmps79;go_wp2_with(go_at_call 94;refine FO.mono ?_;rintro e w1 ⟨rfl,h⟩;rw[h];clear h);go_ret;exact⟨rfl,rfl⟩
theorem R9 (s:Bs)(w:World):ak 93 #[bV s] w fun e w'=>e=.returned (.bool (DI s))/\w'=w:=by
 have h0:=eH s [102,105,108,108];have h2:=eH s [114,117,108,101];unfold DI sJ uQ;cases ha:(s==[102,105,108,108]) with
 |true=>
  rw[ha] at h0;clear h2;go_enter func93,ntmps93;go_wp2_with fail;go_ret;exact⟨rfl,rfl⟩
 |false=>
  rw[ha] at h0;cases hc:(s==[114,117,108,101]) with
  |true=>
   rw[hc] at h2;go_enter func93,ntmps93;go_wp2_with fail;go_ret;exact⟨rfl,rfl⟩
  |false=>
   rw[hc] at h2;go_enter func93,ntmps93;go_wp2_with fail;go_ret;exact⟨rfl,rfl⟩
end
section
open Go.RowKit Go.Shelf
abbrev rlV (r:Rl):Value:=.agg #[bV r.wh,bV r.nm,bV r.vl]
end
section
open Go.RowKit Go.Shelf
def fH:List Rl->List Value
 |[]=>[]
 |r::l=>bV r.wh::bV r.nm::bV r.vl::fH l
theorem Ev:∀{l:List Rl} {i:Nat} {r:Rl},l[i]? =some r->(fH l)[i*3]? =some (bV r.wh)/\(fH l)[i*3+1]? =some (bV r.nm)/\(fH l)[i*3+2]? =some (bV r.vl)
 |[],_,_,h=>by simp at h
 |y::l,0,x,h=>by
  simp at h;subst h;exact⟨rfl,rfl,rfl⟩
 |y::l,i+1,x,h=>by
  have h1:=Ev (l:=l) (i:=i) (r:=x) (by simpa using h);rw[show(i+1)*3=i*3+1+1+1 from by omega];exact⟨by simpa[fH] using h1.1,by simpa[fH] using h1.2.1,by simpa[fH] using h1.2.2⟩
end
end Go.Proofs.YtjfiehbcamfdfaaGreatDoor

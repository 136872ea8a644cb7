import Derived.Test.YtbkjmamcnflncaaGreatDoorQs27
import Derived.Test.YtbkjmamcnflncaaGreatDoorCards
import Derived.Test.YtbkjmamcnflncaaGreatDoorTie
import Derived.ProofKit
namespace Go.Proofs.YtbkjmamcnflncaaGreatDoor
open Go.Proofs.Tryz
open Go.ChangeShapes Go.WideShapes Go.RowKit
set_option maxRecDepth 100000
theorem ama:ownKnob prog.godebug=none:=az
theorem XE:prog.readableRec 22=true:=az
theorem a4M:Kids prog (InBook prog 22):=kids_book az XE
theorem ad7:InBook prog 22 22:=⟨of_decide_eq_true az,book_self _⟩
theorem a8P {w:ah}{a:Addr}{v:au}(h:w.cell? a=some v):∃b off,a=⟨b,off,none⟩:=by
 obtain⟨b,off,c⟩:=a;cases c with
 |some s=>
  simp[World.cell?] at h;grind
 |none=>exact⟨b,off,rfl⟩
theorem a0c {H:Type}{enc:TypeId×au->H}{w:ah}{r:Reach}{B j:Nat}{f:Nat->Bool}{k:Bool}{v:au}{d:DataW H}{p:List MemPlace}
  (C:Value.okWide prog w r B 22 v) (h:DataW.Trod enc prog w j f k 22 v d p):
  ∃o l m,v=.slice o l.length m/\qJ w o l:=by
 obtain⟨a,D,m,rfl⟩:=okWide_slice underlying22 C;obtain⟨y,E⟩:=h;rcases open_strings underlying22 underlying9 Pj E with⟨g, -⟩|⟨u,e,n,z,g, -,K, -,L, -,c, -⟩
 .exact⟨none,[],0,by simpa[Value.cells] using g,λi s h=>by simp at h⟩
 .have x:e<=z.length:=by grind
  refine⟨some u,z.take e,n,by rw[iV,Nat.min_eq_left x];simpa[Value.cells] using g,λi s q=>?_⟩;rw[AV] at q;split at q
  .have F:=(kQ.1 q).1;have A:=c 0 aa;have I:=c i F;rw[List.getD,q] at I;have J:u.add 0=u:=by simp[Addr.add]
   rw[J] at A;obtain⟨b,t,rfl⟩:=a8P A;have M:(⟨b,t,none⟩:Addr).add i=⟨b,t+i,none⟩:=by unfold Addr.add;split<;>simp_all
   grind
  .cases q
theorem Vt {H:Type}{enc:TypeId×au->H}{W a:ah}{b:Nat->Bool}{v:au}{d:DataW H}{p:List MemPlace}(c:aD W a)
  (h:DataW.Trod enc prog W 0 (λ_=>true) true 22 v d p) (hs:∀x∈p,b x.block=true) (f:∀x∈p,x.block<W.heap.size):DataW.Trod enc prog a 0 b true 22 v d p:=by
 obtain⟨n,g⟩:=DataW.Trod.respare a4M (λt e i j=>book_sized XE i j) ad7 h hs;exact⟨n,DataW.trod_carry n _ _ _ g (λx k=>c.same (f x k))⟩

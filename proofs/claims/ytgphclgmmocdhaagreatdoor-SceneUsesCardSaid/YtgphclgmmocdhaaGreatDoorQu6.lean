/-
  Parts of the proof.
-/
import Derived.Test.YtgphclgmmocdhaaGreatDoorQu2
import Derived.Test.YtgphclgmmocdhaaGreatDoorQu5
namespace Go.Proofs.YtgphclgmmocdhaaGreatDoor
def shM (x y:Int):Mv:=⟨.whole 1,.whole 0,.whole 0,.whole 1,.whole x,.whole y⟩
theorem chk_whole {x:Int} (h1 : -1000<=x) (h2:x<=1000):chk x 1=0:=by
 rw [chk_zero]
 refine ⟨by decide,?_,by omega,by decide⟩
 unfold gcdI
 simp
theorem chk_11:chk 1 1=0:=by decide +kernel
theorem chk_01:chk 0 1=0:=by decide +kernel
theorem mul_one_s {n d:Int} (h:chk n d=0):mul 1 1 n d=⟨n,d,0⟩:=mul_some.2 ⟨chk_11,h,h,by grind⟩
theorem mul_nil {n d:Int} (h:chk n d=0):mul 0 1 n d=⟨0,1,0⟩:=mul_some.2 ⟨chk_01,h,chk_01,by grind⟩
theorem add_nil {n d:Int} (h:chk n d=0):add n d 0 1=⟨n,d,0⟩:=add_some.2 ⟨h,chk_01,h,by grind⟩
theorem nil_add {n d:Int} (h:chk n d=0):add 0 1 n d=⟨n,d,0⟩:=add_some.2 ⟨chk_01,h,h,by grind⟩
theorem dot_one {n d n' d':Int} (h:chk n d=0) (h':chk n' d'=0):dotF 0 (.whole 1) ⟨n,d⟩ (.whole 0) ⟨n',d'⟩=(⟨n,d⟩,0):=by
 unfold dotF doF Fr.whole
 simp only [if_true,mul_one_s h,mul_nil h',add_nil h]
theorem dot_two {n d n' d':Int} (h:chk n d=0) (h':chk n' d'=0):dotF 0 (.whole 0) ⟨n,d⟩ (.whole 1) ⟨n',d'⟩=(⟨n',d'⟩,0):=by
 unfold dotF doF Fr.whole
 simp only [if_true,mul_one_s h',mul_nil h,nil_add h']
theorem turned_sh {x y n d n' d':Int} (h:chk n d=0) (h':chk n' d'=0):turnedF 0 (shM x y) ⟨⟨n,d⟩,⟨n',d'⟩⟩=(⟨⟨n,d⟩,⟨n',d'⟩⟩,0):=by
 unfold turnedF shM
 simp only [dot_one h h',dot_two h h']
end Go.Proofs.YtgphclgmmocdhaaGreatDoor

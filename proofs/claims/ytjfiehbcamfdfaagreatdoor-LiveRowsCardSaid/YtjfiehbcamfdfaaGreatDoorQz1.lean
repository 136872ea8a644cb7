/- Parts of the proof. -/
import Derived.Test.YtjfiehbcamfdfaaGreatDoorQz0
import Derived.Stop.Asserts
import Derived.RowKitTokens
namespace Go.Proofs.YtjfiehbcamfdfaaGreatDoor
open Go.Proofs.Tryz
set_option maxHeartbeats 1000000
section
open Go.RowKit
abbrev zT (n:Int):Obj:=.cells #[aa (2*n+1),aa 2] 127
theorem Hr (n:Int)(w:ag)(h1: -1000<=n)(h2:n<=1000):
  ax 135 #[aa n] w fun e W=>e=.returned (.agg #[aa (2*n+1),aa 2])/\W=w.alloc (zT n):=by
 go_enter func135,ntmps135;go_wp2;exact bodyPost_ret (v:=.agg #[aa (2*n+1),aa 2]) (by simp[results,results135,go_sem]) rfl ⟨rfl,rfl⟩
abbrev a2z (x y:Int):Obj:=.cells #[aa (2*x+1),aa 2,aa (2*y+1),aa 2] 177
theorem E5 (x y:Int)(w:ag):Below w.heap.size w (((w.alloc (a2z x y)).alloc (zT x)).alloc (zT y)):=(((Below.refl _ _).alloc ai _).alloc (by simp) _).alloc (by simp;omega) _
theorem zU (x y:Int)(w:ag)(h1: -1000<=x)(h2:x<=1000)(h3: -1000<=y)(h4:y<=1000):
  ax 89 #[aa x,aa y] w fun e W=>e=.returned (lN (jC x y))/\W=((w.alloc (a2z x y)).alloc (zT x)).alloc (zT y):=by
 have HX:=fun V=>Hr x V h1 h2;have HY:=fun V=>Hr y V h3 h4;go_enter func89,ntmps89;go_wp2_with(first|(go_at_call_of 135 y;refine(HY _).mono ?_;rintro e w2 ⟨rfl,rfl⟩)|(go_at_call_of 135 x;refine(HX _).mono ?_;rintro e w1 ⟨rfl,rfl⟩));exact bodyPost_ret (v:=lN (jC x y)) (by simp[results,results89,go_sem,jC]) rfl ⟨rfl,rfl⟩
theorem tu (n:Int)(w:ag):ax 46 #[aa n] w fun e W=>e=.returned (.bool (decide (1<=n/\n<=40)))/\W=w:=by
 by_cases h1:1<=n
 ·by_cases h2:n<=40
  ·go_enter func46,ntmps46;go_wp2;go_ret;exact⟨uJ (by simp[h1,h2]),rfl⟩
  ·go_enter func46,ntmps46;go_wp2;go_ret;exact⟨uJ (by simp[h2]),rfl⟩
 ·go_enter func46,ntmps46;go_wp2;go_ret;exact⟨uJ (by simp;omega),rfl⟩
theorem LX {y n d:Int}(h1: -1073741824<=y)(h2:y<1073741824)(h:dz n d=0):lI (2*n)/\lI (2*y)/\lI (2*y+1)/\lI ((2*y+1)*d)/\lI (2*n-(2*y+1)*d):=by
 obtain⟨a1, -,a3,a4⟩:=dJ.1 h;have hd:0<=d:=by omega
 have hd2:d<=1073741824:=by omega
 have k1:(2*y+1)*d<=2147483647*d:=Int.mul_le_mul_of_nonneg_right (by omega) hd;have k2: -2147483648*d<=(2*y+1)*d:=Int.mul_le_mul_of_nonneg_right (by omega) hd;refine⟨⟨by omega,by omega⟩,⟨by omega,by omega⟩,⟨by omega,by omega⟩,⟨by omega,by omega⟩,⟨by omega,by omega⟩⟩
theorem Fh (y n d:Int)(w:ag)(h1: -1073741824<=y)(h2:y<1073741824)(h:dz n d=0):
  ax 133 #[aa y,.agg #[aa n,aa d]] w fun e W=>e=.returned (aa (jQ y n d))/\Below w.heap.size w W:=by
 obtain⟨⟨m1,m2⟩,⟨m3,m4⟩,⟨m5,m6⟩,⟨m7,m8⟩,⟨m9,m10⟩⟩:=LX h1 h2 h;have b0:=aU w (.cells #[aa n,aa d] 127);unfold jQ;go_enter func133,ntmps133;go_wp2;go_ret;exact⟨rfl,b0⟩
structure P5 where
 nd:Int
 o:Option Addr
 cap:Nat
 s:Pm
 lv:Int
abbrev UC (x:P5):ah:=.agg #[aa x.nd,.slice x.o x.s.pts.length x.cap,.string x.s.fill,.string x.s.rule,aa x.lv]
abbrev wH (x:P5):Array ah:=#[aa x.nd,.slice x.o x.s.pts.length x.cap,.string x.s.fill,.string x.s.rule,aa x.lv]
structure Ot (w:ag)(b i:Nat)(x:P5):Prop where
 c0:w.cell? (ak b i)=some (aa x.nd)
 c1:w.cell? (ak b (i+1))=some (.slice x.o x.s.pts.length x.cap)
 c2:w.cell? (ak b (i+2))=some (.string x.s.fill)
 c3:w.cell? (ak b (i+3))=some (.string x.s.rule)
 c4:w.cell? (ak b (i+4))=some (aa x.lv)
theorem Ot.below {w w':ag}{b i n:Nat}{x:P5}(h:Ot w b i x)(hb:Below n w w')(hn:w.heap.size<=n):Ot w' b i x:=by
 have hl:b<n:=Nat.lt_of_lt_of_le (aC h.c0) hn;exact⟨(hb.cell (p:=⟨b,i,none⟩) hl).trans h.c0,(hb.cell (p:=⟨b,i+1,none⟩) hl).trans h.c1,(hb.cell (p:=⟨b,i+2,none⟩) hl).trans h.c2,(hb.cell (p:=⟨b,i+3,none⟩) hl).trans h.c3,(hb.cell (p:=⟨b,i+4,none⟩) hl).trans h.c4⟩
theorem Ot.new (w:ag)(x:P5)(t:TypeId):Ot (w.alloc (.cells (wH x) t)) w.heap.size 0 x:=⟨by simp,by simp,by simp,by simp,by simp⟩
def gV (w:ag)(o:Option Addr)(l:List P5):Prop:=∀i x,l[i]? =some x->∃b off,o=some ⟨b,off,none⟩/\Ot w b (off+i*5) x
theorem gV.below {w w':ag}{o:Option Addr}{l:List P5}{n:Nat}(h:gV w o l)(hb:Below n w w')(hn:w.heap.size<=n):gV w' o l:=fun i a ha=>by
 obtain⟨b,off,h1,h2⟩:=h i a ha;exact⟨b,off,h1,h2.below hb hn⟩
def iK (w:ag)(l:List P5):Prop:=∀x∈l,eO w x.o x.s.pts
theorem iK.below {w w':ag}{l:List P5}{n:Nat}(h:iK w l)(hb:Below n w w')(hn:w.heap.size<=n):iK w' l:=fun x hx=>(h x hx).below hb hn
abbrev sP (l:List P5):List Pm:=l.map (·.s)
end
section
open Go.RowKit Go.Extern.Stop Go.Stop Go.Extern
abbrev Fj:ah:=.pointer (some ⟨19,213,none⟩)
abbrev hP:ah:=.pointer (some ⟨19,113,none⟩)
abbrev hE:ah:=.pointer (some ⟨19,33,none⟩)
abbrev hS:ah:=.pointer (some ⟨19,390,none⟩)
theorem E8 (t:Addr)(w:ag):(ReflectliteValue.unpack (.iface 213 (.pointer (some t)))).run prog w
    = .ok (.agg #[Fj,ay w.heap.size,.int .u64 150]) (w.alloc (.cells #[.pointer (some t)] 213)):=by kernel_rfl
theorem UD (a:Addr)(w:ag):(ReflectliteValue.methodAny (ReflectliteValue.valueError "reflectlite.Value.Type" 0) (fun t _ _ _=>ReflectliteType.toType t) #[.agg #[Fj,.pointer (some a),.int .u64 150]]).run prog w
    = .ok (.iface 302 (.agg #[Fj])) w:=by kernel_rfl
theorem UE (w:ag):((ReflectliteType.abiMethod fun t=>(fun a:Nat=>Value.int IntKind.u8 (a:Int))<$>Rtype.kind t) #[Fj]).run prog w=.ok (.int .u8 22) w:=by kernel_rfl
theorem a1A (w:ag):((ReflectliteType.abiMethod fun t=>(fun a:Nat=>Value.int IntKind.u8 (a:Int))<$>Rtype.kind t) #[hP]).run prog w=.ok (.int .u8 22) w:=by kernel_rfl
theorem Ou (a:Addr)(w:ag):(ReflectliteValue.parts (.agg #[Fj,.pointer (some a),.int .u64 150])).run prog w=.ok (some (213,a,150)) w:=by kernel_rfl
theorem Ov (a p:Addr)(W:ag)(ha:W.cell? a=some (.pointer (some p))):
    (ReflectliteValue.method (ReflectliteValue.valueError "reflectlite.Value.IsNil" 0) ReflectliteValue.isNil #[.agg #[Fj,.pointer (some a),.int .u64 150]]).run prog W=.ok (.bool false) W:=by
  obtain⟨k,hk,hr⟩:∃k,ReflectliteValue.method (ReflectliteValue.valueError "reflectlite.Value.IsNil" 0) ReflectliteValue.isNil #[.agg #[Fj,.pointer (some a),.int .u64 150]]=(ReflectliteValue.parts (.agg #[Fj,.pointer (some a),.int .u64 150])>>=k)/\(k (some (213,a,150))).run prog W=.ok (.bool false) W:=
    ⟨_,rfl,by simp[ReflectliteValue.isNil,loadVar,isAgg,underlying,underlying213,ha,Result.andThen]⟩
  rw[hk];simp only[Sem.run_bind,Ou,Result.andThen];exact hr
theorem Ow (w:ag):(ReflectliteType.method ReflectliteType.elem #[.agg #[Fj]]).run prog w=.ok (.iface 302 (.agg #[hP])) w:=by kernel_rfl
theorem xQ (w:ag):(ReflectliteType.relation "Implements" ReflectliteType.implements_ #[.agg #[hP],.iface 302 (.agg #[hE])]).run prog w=.ok (.bool true) w:=by kernel_rfl
theorem YZ (v:ah)(w:ag):(ReflectliteType.typeOf #[.iface 113 v]).run prog w=.ok (.iface 302 (.agg #[hP])) w:=by kernel_rfl
theorem uQ (v:ah)(w:ag):(ReflectliteType.typeOf #[.iface 390 v]).run prog w=.ok (.iface 302 (.agg #[hS])) w:=by kernel_rfl
theorem Ht (w:ag):(ReflectliteType.relation "AssignableTo" ReflectliteType.assignableTo #[.agg #[hP],.iface 302 (.agg #[hP])]).run prog w=.ok (.bool true) w:=by kernel_rfl
theorem Hu (w:ag):(ReflectliteType.relation "AssignableTo" ReflectliteType.assignableTo #[.agg #[hS],.iface 302 (.agg #[hP])]).run prog w=.ok (.bool false) w:=by kernel_rfl
theorem UF (e:Addr)(w:ag):(ReflectliteValue.unpack (.iface 113 (.pointer (some e)))).run prog w
    = .ok (.agg #[hP,ay w.heap.size,.int .u64 150]) (w.alloc (.cells #[.pointer (some e)] 113)):=by kernel_rfl
theorem UG (w:ag):(Rtype.elem? 213).run prog w=.ok (some 113) w:=by kernel_rfl
theorem mkP (p:Addr)(w:ag):(ReflectliteValue.mk 113 p ReflectliteValue.flagAddr).run prog w=.ok (.agg #[hP,.pointer (some p),.int .u64 406]) w:=by kernel_rfl
theorem Z0 (a p:Addr)(W:ag)(ha:W.cell? a=some (.pointer (some p))):
    (ReflectliteValue.method (ReflectliteValue.valueError "reflectlite.Value.Elem" 0) ReflectliteValue.elem #[.agg #[Fj,.pointer (some a),.int .u64 150]]).run prog W
      = .ok (.agg #[hP,.pointer (some p),.int .u64 406]) W:=by
  obtain⟨k,hk,hr⟩:∃k,ReflectliteValue.method (ReflectliteValue.valueError "reflectlite.Value.Elem" 0) ReflectliteValue.elem #[.agg #[Fj,.pointer (some a),.int .u64 150]]=(ReflectliteValue.parts (.agg #[Fj,.pointer (some a),.int .u64 150])>>=k)/\(k (some (213,a,150))).run prog W=.ok (.agg #[hP,.pointer (some p),.int .u64 406]) W:=
    ⟨_,rfl,by simp[ReflectliteValue.elem,loadVar,isAgg,underlying,underlying213,ha,Result.andThen,UG,mkP]⟩
  rw[hk];simp only[Sem.run_bind,Ou,Result.andThen];exact hr
end
end Go.Proofs.YtjfiehbcamfdfaaGreatDoor

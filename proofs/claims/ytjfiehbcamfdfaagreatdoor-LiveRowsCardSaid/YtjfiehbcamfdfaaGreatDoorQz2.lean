/- Parts of the proof. -/
import Derived.Test.YtjfiehbcamfdfaaGreatDoorQz1
import Derived.Lib.QuietBelow
namespace Go.Proofs.YtjfiehbcamfdfaaGreatDoor
open Go.Proofs.Tryz
set_option maxHeartbeats 8000000
section
open Go.RowKit Go.Extern.Stop Go.Stop Go.Extern
theorem zW (h:ah)(w:ag):(Go.method 530 302 (.agg #[h]) "Kind").run prog w=.ok (319,h) w:=by kernel_rfl
theorem zX (h:ah)(w:ag):(Go.method 530 302 (.agg #[h]) "Elem").run prog w=.ok (333,.agg #[h]) w:=by kernel_rfl
theorem mQ (h:ah)(w:ag):(Go.method 530 302 (.agg #[h]) "Implements").run prog w=.ok (334,.agg #[h]) w:=by kernel_rfl
theorem kS (h:ah)(w:ag):(Go.method 530 302 (.agg #[h]) "AssignableTo").run prog w=.ok (331,.agg #[h]) w:=by kernel_rfl
theorem Z4 (a:Addr)(w:ag):(ReflectliteValue.parts (.agg #[hP,.pointer (some a),.int .u64 406])).run prog w=.ok (some (113,a,406)) w:=by kernel_rfl
theorem a2A (a:Addr)(w:ag):(ReflectliteValue.parts (.agg #[hP,.pointer (some a),.int .u64 150])).run prog w=.ok (some (113,a,150)) w:=by kernel_rfl
theorem Z5 (w:ag):(Rtype.directlyAssignable 113 113).run prog w=.ok true w:=by kernel_rfl
theorem aaw (ta b e:Addr)(old:ah)(W:ag)(hb:W.cell? b=some (.pointer (some e)))(ht:W.cell? ta=some old)(hf:W.frozen? ta=false):
    (ReflectliteValue.set #[.agg #[hP,.pointer (some ta),.int .u64 406],.agg #[hP,.pointer (some b),.int .u64 150]]).run prog W
      = .ok (.tuple #[]) (W.setCell ta (.pointer (some e))):=by
  obtain⟨k,hk,hr⟩:∃k:Option (TypeId×Addr×Nat)->Option (TypeId×Addr×Nat)->Sem ah,ReflectliteValue.set #[.agg #[hP,.pointer (some ta),.int .u64 406],.agg #[hP,.pointer (some b),.int .u64 150]]=(ReflectliteValue.parts (.agg #[hP,.pointer (some ta),.int .u64 406])>>=fun p=>ReflectliteValue.parts (.agg #[hP,.pointer (some b),.int .u64 150])>>=fun q=>k p q)/\(k (some (113,ta,406)) (some (113,b,150))).run prog W=.ok (.tuple #[]) (W.setCell ta (.pointer (some e))):=by
    refine⟨_,rfl,?_⟩;simp[ReflectliteValue.flagAddr,loadVar,isAgg,underlying,underlying113,hb,Result.andThen,Z5,storeVar,Value.cells,storeCells,Addr.add];rw[run_store prog W ta _ _ (by rfl)];simp[ht,hf]
  rw[hk];simp only[Sem.run_bind,Z4,a2A,Result.andThen];exact hr
theorem a6t (v:ah)(xT:TypeId)(w:ag):(Instr.typeAssert (.iface 390 v) xT 306 true).run prog w=.ok (.tuple #[.nilIface,.bool false]) w:=run_typeAssert_lacksB underlying306 (by kernel_rfl) (by kernel_rfl) v xT w
theorem wI (v:ah)(xT:TypeId)(w:ag):(Instr.typeAssert (.iface 390 v) xT 309 true).run prog w=.ok (.tuple #[.nilIface,.bool false]) w:=run_typeAssert_lacksB underlying309 (by kernel_rfl) (by kernel_rfl) v xT w
theorem tC (v:ah)(xT:TypeId)(w:ag):(Instr.typeAssert (.iface 390 v) xT 310 true).run prog w=.ok (.tuple #[.nilIface,.bool false]) w:=run_typeAssert_lacksB underlying310 (by kernel_rfl) (by kernel_rfl) v xT w
theorem lt_of_cell {w:ag}{a:Addr}{v:ah}(h:w.cell? a=some v):a.block<w.heap.size:=by
  rcases Nat.lt_or_ge a.block w.heap.size with h'|h'
  · exact h'
  · simp[World.cell?,Array.getElem?_eq_none h'] at h
abbrev Yx (n:Nat):Array ah:=#[Fj,ay n,.int .u64 150]
theorem Z6 (e t:Addr)(w:ag)(hg:w.cell? (ak 11 0)=some (.iface 302 (.agg #[hE]))):
    ax 130 #[.iface 390 (.pointer (some e)),.iface 213 (.pointer (some t))] w fun ev w'=>ev=.returned (.bool false)/\Below w.heap.size w w':=by
  have h6:=@run_callFunc_extern prog 179 _ (fun args=>ReflectliteValue.unpack (args.getD 0 (.tuple #[]))) func179 (by kernel_rfl) (by kernel_rfl) (by kernel_rfl) (by kernel_rfl);have h7:=@run_callFunc_extern prog 180 _ (ReflectliteValue.methodAny (ReflectliteValue.valueError "reflectlite.Value.Type" 0) (fun t _ _ _=>ReflectliteType.toType t)) func180 (by kernel_rfl) (by kernel_rfl) (by kernel_rfl) (by kernel_rfl);have h8:=@run_callFunc_extern prog 181 _ (ReflectliteValue.method (ReflectliteValue.valueError "reflectlite.Value.IsNil" 0) ReflectliteValue.isNil) func181 (by kernel_rfl) (by kernel_rfl) (by kernel_rfl) (by kernel_rfl);have h27:=@run_callFunc_extern prog 319 _ (ReflectliteType.abiMethod fun t=>do pure (.int .u8 (<- Rtype.kind t))) func319 (by kernel_rfl) (by kernel_rfl) (by kernel_rfl) (by kernel_rfl);have h37:=@run_callFunc_extern prog 333 _ (ReflectliteType.method ReflectliteType.elem) func333 (by kernel_rfl) (by kernel_rfl) (by kernel_rfl) (by kernel_rfl);have h38:=@run_callFunc_extern prog 334 _ (ReflectliteType.relation "Implements" ReflectliteType.implements_) func334 (by kernel_rfl) (by kernel_rfl) (by kernel_rfl) (by kernel_rfl);have h10:=@run_callFunc_extern prog 204 _ ReflectliteType.typeOf func204 (by kernel_rfl) (by kernel_rfl) (by kernel_rfl) (by kernel_rfl);have h35:=@run_callFunc_extern prog 331 _ (ReflectliteType.relation "AssignableTo" ReflectliteType.assignableTo) func331 (by kernel_rfl) (by kernel_rfl) (by kernel_rfl) (by kernel_rfl);have tO:=uQ;have mA:=kS;have a25:=Hu;have f6:=E8;have f7:=UD;have mK:=zW;have mE:=zX;have mI:=mQ;have k27:=UE;have k25:=a1A;have e27:=Ow;have i25:=xQ;have nA:=a6t;have nU:=wI;have nUs:=tC;have n8:=Ov ⟨w.heap.size,0,none⟩ t ((w.alloc (.cells #[.pointer (some t)] 213)).alloc (.cells (Yx w.heap.size) 253)) (by simp);have hlt:=lt_of_cell hg
  have hg2:((w.alloc (.cells #[.pointer (some t)] 213)).alloc (.cells (Yx w.heap.size) 253)).cell? (ak 11 0)=some (.iface 302 (.agg #[hE])):=by
    rw[World.cell?_alloc_lt _ _ ⟨11,0,none⟩ (by simp at hlt⊢;omega),World.cell?_alloc_lt _ _ ⟨11,0,none⟩ hlt];exact hg
  simp only[Fj,hP,hE,hS,Yx] at*;go_enter func130,ntmps130;go_wp2;refine wp_loop_rounds 1 ?_;rw[rounds_succ];go_wp2;go_ret;exact⟨rfl,((((Below.refl _ _).alloc ai _).alloc (by simp) _).alloc (by simp;omega) _)⟩
theorem a2B (e t:Addr)(old:ah)(w:ag)(hg:w.cell? (ak 11 0)=some (.iface 302 (.agg #[hE])))(ht0:w.cell? t=some old)(hf0:w.frozen? t=false):
    ax 130 #[.iface 113 (.pointer (some e)),.iface 213 (.pointer (some t))] w fun ev w'=>ev=.returned (.bool true)/\∃w1,Below w.heap.size w w1/\w'=w1.setCell t (.pointer (some e)):=by
  have h6:=@run_callFunc_extern prog 179 _ (fun args=>ReflectliteValue.unpack (args.getD 0 (.tuple #[]))) func179 (by kernel_rfl) (by kernel_rfl) (by kernel_rfl) (by kernel_rfl);have h7:=@run_callFunc_extern prog 180 _ (ReflectliteValue.methodAny (ReflectliteValue.valueError "reflectlite.Value.Type" 0) (fun t _ _ _=>ReflectliteType.toType t)) func180 (by kernel_rfl) (by kernel_rfl) (by kernel_rfl) (by kernel_rfl);have h8:=@run_callFunc_extern prog 181 _ (ReflectliteValue.method (ReflectliteValue.valueError "reflectlite.Value.IsNil" 0) ReflectliteValue.isNil) func181 (by kernel_rfl) (by kernel_rfl) (by kernel_rfl) (by kernel_rfl);have h27:=@run_callFunc_extern prog 319 _ (ReflectliteType.abiMethod fun t=>do pure (.int .u8 (<- Rtype.kind t))) func319 (by kernel_rfl) (by kernel_rfl) (by kernel_rfl) (by kernel_rfl);have h37:=@run_callFunc_extern prog 333 _ (ReflectliteType.method ReflectliteType.elem) func333 (by kernel_rfl) (by kernel_rfl) (by kernel_rfl) (by kernel_rfl);have h38:=@run_callFunc_extern prog 334 _ (ReflectliteType.relation "Implements" ReflectliteType.implements_) func334 (by kernel_rfl) (by kernel_rfl) (by kernel_rfl) (by kernel_rfl);have h10:=@run_callFunc_extern prog 204 _ ReflectliteType.typeOf func204 (by kernel_rfl) (by kernel_rfl) (by kernel_rfl) (by kernel_rfl);have h35:=@run_callFunc_extern prog 331 _ (ReflectliteType.relation "AssignableTo" ReflectliteType.assignableTo) func331 (by kernel_rfl) (by kernel_rfl) (by kernel_rfl) (by kernel_rfl);have h11:=@run_callFunc_extern prog 222 _ (ReflectliteValue.method (ReflectliteValue.valueError "reflectlite.Value.Elem" 0) ReflectliteValue.elem) func222 (by kernel_rfl) (by kernel_rfl) (by kernel_rfl) (by kernel_rfl);have h12:=@run_callFunc_extern prog 223 _ ReflectliteValue.set func223 (by kernel_rfl) (by kernel_rfl) (by kernel_rfl) (by kernel_rfl);have tO:=YZ;have mA:=kS;have a25:=Ht
  have v25:=UF;have f6:=E8;have f7:=UD;have mK:=zW;have mE:=zX;have mI:=mQ;have k27:=UE;have k25:=a1A;have e27:=Ow;have i25:=xQ;have n8:=Ov ⟨w.heap.size,0,none⟩ t ((w.alloc (.cells #[.pointer (some t)] 213)).alloc (.cells (Yx w.heap.size) 253)) (by simp);have hlt:=lt_of_cell hg;have htl:=lt_of_cell ht0;have hg2:((w.alloc (.cells #[.pointer (some t)] 213)).alloc (.cells (Yx w.heap.size) 253)).cell? (ak 11 0)=some (.iface 302 (.agg #[hE])):=by
    rw[World.cell?_alloc_lt _ _ ⟨11,0,none⟩ (by simp at hlt⊢;omega),World.cell?_alloc_lt _ _ ⟨11,0,none⟩ hlt];exact hg
  have el:=Z0 ⟨w.heap.size,0,none⟩ t (((w.alloc (.cells #[.pointer (some t)] 213)).alloc (.cells (Yx w.heap.size) 253)).alloc (.cells (Yx w.heap.size) 253)) (by rw[World.cell?_alloc_lt _ _ ⟨w.heap.size,0,none⟩ (by simp;omega)];simp);have st:=aaw t ⟨w.heap.size+1+1+1,0,none⟩ e old ((((w.alloc (.cells #[.pointer (some t)] 213)).alloc (.cells (Yx w.heap.size) 253)).alloc (.cells (Yx w.heap.size) 253)).alloc (.cells #[.pointer (some e)] 113))
    (by rw[World.cell?_alloc_at _ _ _ _ (by simp)];rfl)
    (by rw[World.cell?_alloc_lt _ _ t (by simp;omega),World.cell?_alloc_lt _ _ t (by simp;omega),World.cell?_alloc_lt _ _ t (by simp;omega),World.cell?_alloc_lt _ _ t htl];exact ht0)
    (by rw[World.frozen?_alloc_old _ _ t (by simp;omega),World.frozen?_alloc_old _ _ t (by simp;omega),World.frozen?_alloc_old _ _ t (by simp;omega),World.frozen?_alloc_old _ _ t (Nat.ne_of_lt htl)];exact hf0)
  simp only[Fj,hP,hE,Yx] at*;go_enter func130,ntmps130;go_wp2;refine wp_loop_rounds 1 ?_;rw[rounds_succ];go_wp2;go_ret;exact⟨rfl,_,((((Below.refl _ _).alloc ai _).alloc (by simp) _).alloc (by simp;omega) _).alloc (by simp;omega) _,rfl⟩
end
section
open Go.RowKit
set_option maxRecDepth 20000
structure EP (aB aS aZ aV:Addr)(w:ag):Prop where
 e3:E3 aB aS aZ w
 v:w.cell? (ak 8 0)=some (.iface 390 (.pointer (some aV)))
 et:w.cell? (ak 11 0)=some (.iface 302 (.agg #[hE]))
theorem EP.below {aB aS aZ aV:Addr}{w w':ag}{B:Nat}(h:EP aB aS aZ aV w)(hb:Below B w w')(hB:w.heap.size<=B):EP aB aS aZ aV w':=
 ⟨h.e3.below hb hB,(hb.cell (Nat.lt_of_lt_of_le (aC h.v) hB)).trans h.v,(hb.cell (Nat.lt_of_lt_of_le (aC h.et) hB)).trans h.et⟩
def tF (r:aD):Prop:=r.toList=UB\/r.toList=a1z
instance (r:aD):Decidable (tF r):=by unfold tF;infer_instance
theorem ba_eq {a b:aD}(h:a.toList=b.toList):a=b:=by
 rw[ByteArray.toList_eq,ByteArray.toList_eq] at h;cases a;cases b;simpa using h
def a2C (l:List Qt)(p:Qt)(r:aD)(hv:Bool)(v:ah):Prop:=
 (kR l/\gH p=0/\tF r/\hv=holdB l r p/\v=.nilIface)\/(¬(kR l/\gH p=0/\tF r)/\(kR l->gH p=0->∃a,v=.iface 390 (.pointer (some a)))/\YV v)
theorem xR (aV:Addr)(l:List Qt)(o:Option Addr)(cap:Nat)(p:Qt)(r:aD)(w:ag)(h1:(r.toList==[119,105,110,100])=false)(h2:(r.toList==[101,118,101,110])=false)(hV:w.cell? (ak 8 0)=some (.iface 390 (.pointer (some aV)))):
  ax 129 #[.agg #[.slice o l.length cap],lN p,.string r] w fun e W=>e=.returned (.tuple #[.bool false,.iface 390 (.pointer (some aV))])/\Below w.heap.size w W:=by
 go_enter func129,ntmps129;go_upto_region 1 with fail;obtain⟨U,hU⟩:∃U,(w.alloc (.cells #[.slice o l.length cap] 136)).alloc (.cells #[aa p.xn,aa p.xd,aa p.yn,aa p.yd] 177)=U:=⟨_,rfl⟩;obtain⟨cS,⟨g0,g1,g2,g3⟩,rV⟩:=wF w _ _ _ _ _ _ _ U hU;have hVU:=(rV.cell (aC hV)).trans hV;rw[hU];clear hU hV;have hVd:U.drew.cell? (ak 8 0)=some (.iface 390 (.pointer (some aV))):=hVU;go_wp2_with fail;go_region
 all_goals
  go_wp2_with fail;refine bodyPost_ret (results_tmp2 rfl _ _ _) rfl ?_;exact⟨rfl,rV.drew⟩
theorem QJ (aB aS aZ aV:Addr)(l:List Qt)(o:Option Addr)(cap:Nat)(p:Qt)(r:aD)(w:ag)(h:eO w o l)(hp:PI p)(hE:EP aB aS aZ aV w):
  ax 129 #[.agg #[.slice o l.length cap],lN p,.string r] w fun e W=>∃hv v,a2C l p r hv v/\e=.returned (.tuple #[.bool hv,v])/\Below w.heap.size w W:=by
 by_cases h1:r.toList=UB
 ·have hr:r=⟨#[119,105,110,100]⟩:=ba_eq (by rw[h1,ByteArray.toList_eq];rfl);subst hr;refine(LQ aB aS aZ l o cap p w h hp hE.e3).mono ?_;rintro e W ⟨wd,cr,v,hv,rfl,hb⟩;refine⟨_,_,?_,rfl,hb⟩;rcases hv with⟨k1,k2,rfl,rfl,rfl⟩|⟨k1,rfl,rfl,k2⟩
  ·exact .inl ⟨k1,k2,.inl h1,by rw[holdB,if_pos h1],rfl⟩
  ·exact .inr ⟨fun h=>k1 ⟨h.1,h.2.1⟩,fun a b=>absurd ⟨a,b⟩ k1,k2⟩
 ·by_cases h2:r.toList=a1z
  ·have hr:r=⟨#[101,118,101,110]⟩:=ba_eq (by rw[h2,ByteArray.toList_eq];rfl);subst hr;refine(LU aB aS aZ l o cap p w h hp hE.e3).mono ?_;rintro e W ⟨wd,cr,v,hv,rfl,hb⟩;refine⟨_,_,?_,rfl,hb⟩;rcases hv with⟨k1,k2,rfl,rfl,rfl⟩|⟨k1,rfl,rfl,k2⟩
   ·exact .inl ⟨k1,k2,.inr h2,by rw[holdB,if_neg h1];rfl,rfl⟩
   ·exact .inr ⟨fun h=>k1 ⟨h.1,h.2.1⟩,fun a b=>absurd ⟨a,b⟩ k1,k2⟩
  ·refine(xR aV l o cap p r w (beq_eq_false_iff_ne.2 h1) (beq_eq_false_iff_ne.2 h2) hE.v).mono ?_;rintro e W ⟨rfl,hb⟩;exact⟨_,_,.inr ⟨fun h=>h.2.2.elim h1 h2,fun _ _=>⟨aV,rfl⟩,.inl ⟨aV,rfl⟩⟩,rfl,hb⟩
def zY (w:ag)(v:ah):Prop:=(∃a,v=.iface 390 (.pointer (some a)))\/(∃pb t,w.cell? (ak pb 1)=some (.iface 390 (.pointer (some t)))/\v=.iface 113 (ay pb))
def ji (s:Pm):Prop:=kR s.pts/\tF s.rule
theorem UH {x y:Int}(h1:0<=x)(h2:x<=100)(h3:0<=y)(h4:y<=100):gH (jC x y)=0/\PI (jC x y):=by
  have hc:∀n:Int,0<=n->n<=100->dz (2*n+1) 2=0:=fun n a b=>by
    rw[dJ];refine⟨by decide,?_,by omega,by decide⟩;unfold fC;have:(2*n+1).natAbs=2*n.natAbs+1:=by omega
    rw[this];show Nat.gcd (2*n.natAbs+1) 2=1;rw[Nat.gcd_comm,Nat.gcd_rec];simp
  refine⟨iw.2 ⟨fE.2 ⟨hc x h1 h2,hc y h3 h4⟩,?_⟩,⟨⟨?_,?_⟩,⟨by show(-9223372036854775808:Int)<=2;omega,by show(2:Int)<=9223372036854775807;omega⟩,⟨?_,?_⟩,⟨by show(-9223372036854775808:Int)<=2;omega,by show(2:Int)<=9223372036854775807;omega⟩⟩⟩
  · unfold jw QC jC
    rw[if_neg];simp;omega
  all_goals(simp only[jC];omega)
theorem Hw (aB aS aZ aV:Addr)(l:List Qt)(o:Option Addr)(cap:Nat)(p:Qt)(r:aD)(w:ag)(h:eO w o l)(hp:PI p)(hE:EP aB aS aZ aV w)(h1:kR l)(h2:gH p=0)(h3:tF r):
    ax 129 #[.agg #[.slice o l.length cap],lN p,.string r] w fun e W=>e=.returned (.tuple #[.bool (holdB l r p),.nilIface])/\Below w.heap.size w W:=
  (QJ aB aS aZ aV l o cap p r w h hp hE).mono fun e W ⟨hv,v,k,he,hb⟩=>by
    rcases k with⟨-, -, -,rfl,rfl⟩|⟨k, -⟩
    · exact⟨he,hb⟩
    · exact absurd ⟨h1,h2,h3⟩ k
theorem Fp (x y:Int)(w:ag)(h1: -1000<=x)(h2:x<=1000)(h3: -1000<=y)(h4:y<=1000):
    ax 89 #[aa x,aa y] w fun e W=>e=.returned (lN (jC x y))/\Below w.heap.size w W:=
  (zU x y w h1 h2 h3 h4).mono fun _ _ ⟨h1,h2⟩=>⟨h1,by rw[h2];exact E5 x y w⟩
theorem zY.Hy {aB aS aZ:Addr}{ef:Qt->Nat}{w:ag}{l:List Qt}{e:Ending}{W:ag}(h:pR aB aS aZ ef w l e W)(hc:∀a,ef a=0\/ef a=2\/ef a=3)(hn:¬∀y∈l,ef y=0):∃v,zY W v/\e=.returned v:=by
  rcases h with⟨h, -⟩|⟨q,x,r,pb, -, -,h3, -,h5,h6,h7⟩
  · exact absurd h hn
  · refine⟨_,?_,h5⟩
    obtain⟨ad,GQ⟩:=fG aB aS aZ (show ef x=2\/ef x=3 by have:=hc x;omega);exact .inr ⟨pb,ad,by rw[h7,GQ],rfl⟩
theorem zY.a2D {aB aS aZ:Addr}{w:ag}{l:List Qt}{e:Ending}{W:ag}(h:Uv aB aS aZ w l e W):(kR l/\e=.returned .nilIface)\/(¬kR l/\∃v,zY W v/\e=.returned v):=by
  have hp:=h.plain;rcases h with⟨h1,h2⟩|⟨h1,⟨y,hy,hy2⟩,h3⟩|⟨h1,h2,h3⟩
  · exact .inr ⟨fun h=>by have:=h.1;omega,_,.inl ⟨aB,rfl⟩,h2⟩
  · exact .inr ⟨fun h=>hy2 (iw.1 (h.2 y hy)).1,zY.Hy h3 nJ (fun h=>hy2 (h y hy))⟩
  · by_cases hb:∀y∈l,jw y=0
    · rcases hp with hp|⟨hp, -⟩
      · exact .inl hp
      · exact absurd ⟨h1,fun y hy=>iw.2 ⟨h2 y hy,hb y hy⟩⟩ hp
    · refine .inr ⟨fun h=>hb (fun y hy=>(iw.1 (h.2 y hy)).2),zY.Hy h3 (fun a=>by have:=kQ a;omega) hb⟩
theorem zZ (aB aS aZ aV:Addr)(x:P5)(w:ag)(h:eO w x.o x.s.pts)(hE:EP aB aS aZ aV w):
    ax 82 #[UC x] w fun e W=>((ji x.s/\e=.returned .nilIface)\/(¬ji x.s/\∃v,zY W v/\e=.returned v))/\Below w.heap.size w W:=by
  have C0:=Ot.new w x 138;have b0:=aU w (.cells (wH x) 138);go_enter func82,ntmps82;go_upto_region 1 with fail;obtain⟨U,hU⟩:∃U,w.alloc (.cells (wH x) 138)=U:=⟨_,rfl⟩;rw[hU] at C0 b0⊢;clear hU;have Z7:=h.below b0 ai;have Lp:=hE.below b0 ai;have CK:=uO aB aS aZ x.s.pts x.o x.cap U Z7 Lp.e3;obtain⟨c0,c1,c2,c3,c4⟩:=id C0;go_upto_region 2 with(go_at_call 128;refine CK.mono ?_;rintro e w1 ⟨hc,b1⟩;have hc:=zY.a2D hc;obtain⟨v,rfl,hv⟩:∃v,e=.returned v/\((kR x.s.pts/\v=.nilIface)\/(¬kR x.s.pts/\zY w1 v)):=(by rcases hc with⟨k1,k2⟩|⟨k1,v,k2,k3⟩;exact⟨_,k2,.inl ⟨k1,rfl⟩⟩;exact⟨v,k3,.inr ⟨k1,k2⟩⟩));clear hc CK c0 c1 c2 c3 c4;have C1:=C0.below b1 ai;have sS:=aA b0 b1;have hP1:=Z7.below b1 ai;have hE1:=Lp.below b1 ai;rcases hv with⟨hok,rfl⟩|⟨hno,hv⟩
  · go_upto_region 4 with fail
    obtain⟨ec,ip⟩:=UH (x:=0) (y:=0) (by decide) (by decide) (by decide) (by decide);have CE:∀d os,ax 89 #[aa 0,aa 0] (Go.Sort.grow (redrawn w1 d) os) fun e w''=>e=.returned (lN (jC 0 0))/\∃p:Regrown,w''=Go.Sort.grow (redrawn w1 p.d) p.os:=fun d os=>Calls.regrown_of (Fp 0 0 _ (by decide) (by decide) (by decide) (by decide));by_cases hr:tF x.s.rule
    · have HO:∀d os,ax 129 #[.agg #[.slice x.o x.s.pts.length x.cap],lN (jC 0 0),.string x.s.rule] (Go.Sort.grow (redrawn w1 d) os) fun e w''=>e=.returned (.tuple #[.bool (holdB x.s.pts x.s.rule (jC 0 0)),.nilIface])/\∃p:Regrown,w''=Go.Sort.grow (redrawn w1 p.d) p.os:=fun d os=>Calls.regrown_of (Hw aB aS aZ aV x.s.pts x.o x.cap (jC 0 0) x.s.rule _ (hP1.below (below_regrown w1 d os) ai) ip (hE1.below (below_regrown w1 d os) ai) hok ec hr)
      have r1:=cell_regrown C1.c1;have r3:=cell_regrown C1.c3;refine wp_region_quiet_below (by kernel_rfl) (by kernel_rfl) ?_
      repeat(quiet_step (first|(go_at_call 129;exact HO _ _)|(go_at_call 89;exact CE _ _)))
      refine wpQuiet_nil ?_;intro _ hw';obtain⟨pp,hw''⟩:=hw';subst hw'';have b2:=below_regrown w1 pp.d pp.os;generalize Go.Sort.grow (redrawn w1 pp.d) pp.os=w2 at b2⊢;go_wp2_with fail;go_ret;exact⟨.inl ⟨⟨hok,hr⟩,rfl⟩,aA sS b2⟩
    · have h1:(x.s.rule.toList==[119,105,110,100])=false:=beq_eq_false_iff_ne.2 (fun h=>hr (.inl h))
      have h2:(x.s.rule.toList==[101,118,101,110])=false:=beq_eq_false_iff_ne.2 (fun h=>hr (.inr h));have HO:∀d os,ax 129 #[.agg #[.slice x.o x.s.pts.length x.cap],lN (jC 0 0),.string x.s.rule] (Go.Sort.grow (redrawn w1 d) os) fun e w''=>e=.returned (.tuple #[.bool false,.iface 390 (.pointer (some aV))])/\∃p:Regrown,w''=Go.Sort.grow (redrawn w1 p.d) p.os:=fun d os=>Calls.regrown_of (xR aV x.s.pts x.o x.cap (jC 0 0) x.s.rule _ h1 h2 (hE1.below (below_regrown w1 d os) ai).v);have r1:=cell_regrown C1.c1;have r3:=cell_regrown C1.c3;clear h1 h2;refine wp_region_quiet_below (by kernel_rfl) (by kernel_rfl) ?_
      repeat(quiet_step (first|(go_at_call 129;exact HO _ _)|(go_at_call 89;exact CE _ _)))
      refine wpQuiet_nil ?_;intro _ hw';obtain⟨pp,hw''⟩:=hw';subst hw'';have b2:=below_regrown w1 pp.d pp.os;generalize Go.Sort.grow (redrawn w1 pp.d) pp.os=w2 at b2⊢;go_wp2_with fail;go_ret;exact⟨.inr ⟨fun h=>hr h.2,_,.inl ⟨aV,rfl⟩,rfl⟩,aA sS b2⟩
  · have hno':¬ji x.s:=fun h=>hno h.1
    rcases hv with⟨a,rfl⟩|⟨pb,t,hcl,rfl⟩
    · go_wp2_with fail
      go_ret;exact⟨.inr ⟨hno',_,.inl ⟨a,rfl⟩,rfl⟩,sS⟩
    · go_wp2_with fail
      go_ret;exact⟨.inr ⟨hno',_,.inr ⟨pb,t,hcl,rfl⟩,rfl⟩,sS⟩
theorem wJ (aB aS aZ aV:Addr)(v:ah)(w:ag)(h:zY w v)(hE:EP aB aS aZ aV w):
    ax 83 #[v] w fun e W=>(∃a,e=.returned (.iface 390 (.pointer (some a))))/\Below w.heap.size w W:=by
  have b0:=aU w (.cells #[.pointer none] 113);have hE0:=hE.below b0 ai;rcases h with⟨a,rfl⟩|⟨pb,t,hc,rfl⟩
  · have AM:=Z6 a ⟨w.heap.size,0,none⟩ (w.alloc (.cells #[.pointer none] 113)) hE0.et
    go_enter func83,ntmps83;go_wp2_with(go_at_call 130;refine AM.mono ?_;rintro e w1 ⟨rfl,b1⟩);go_ret;exact⟨⟨a,rfl⟩,aA b0 b1⟩
  · have AH:=a2B ⟨pb,0,none⟩ ⟨w.heap.size,0,none⟩ (.pointer none) (w.alloc (.cells #[.pointer none] 113)) hE0.et (by simp) (by simp)
    have hlt:=aC hc;go_enter func83,ntmps83;go_wp2_with fail;refine AH.mono ?_;rintro e w1' ⟨rfl,w1,b1,rfl⟩;have hb1:Below w.heap.size w (w1.setCell ⟨w.heap.size,0,none⟩ (ay pb)):=(aA b0 b1).setCell ai _;have q1:=(hb1.cell (p:=⟨pb,1,none⟩) hlt).trans hc;have f1:(w1.setCell ⟨w.heap.size,0,none⟩ (ay pb)).cell? ⟨w.heap.size,0,none⟩=some (ay pb):=by
      have c0:w1.cell? ⟨w.heap.size,0,none⟩=some (.pointer none):=by rw[b1.cell (p:=⟨w.heap.size,0,none⟩) (by simp)];simp
      exact World.cell?_setCell_same' _ _ _ (by rw[c0];rfl)
    generalize (w1.setCell ⟨w.heap.size,0,none⟩ (ay pb))=w3 at hb1 q1 f1⊢;go_wp2;go_ret;exact⟨⟨t,rfl⟩,hb1⟩
theorem wK (aB aS aZ aV:Addr)(l:List P5)(o:Option Addr)(cap:Nat)(w:ag)(hl:l.length<=1000)(h:gV w o l)(hP:iK w l)(hE:EP aB aS aZ aV w):
    ax 47 #[.slice o l.length cap] w fun e W=>(((∀x∈l,ji x.s)/\e=.returned .nilIface)\/((∃x∈l,¬ji x.s)/\∃a,e=.returned (.iface 113 (.pointer (some a)))))/\Below w.heap.size w W:=by
  go_enter func47,ntmps47;go_wp2
  go_loopw [8] (fun i wr=>∃k:Nat,k<=l.length/\i=aa k/\(∀x∈l.take k,ji x.s)/\Below w.heap.size w wr) (fun i _=>l.length-(intOf i).toNat)
  case atStart=>exact⟨0,Nat.zero_le _,rfl,(fun a ha=>by simp at ha),Below.refl _ _⟩
  case round=>
    obtain⟨k,hk,rfl,hrt,hb⟩:=hrel;by_cases hlt:k<l.length
    · have hlt':(k:Int)<(l.length:Int):=by omega
      obtain⟨x,hx⟩:∃x,l[k]? =some x:=⟨_,List.getElem?_eq_getElem hlt⟩;have hmem:x∈l:=List.mem_of_getElem? hx;obtain⟨b,off,rfl,hC⟩:=h.below hb ai k x hx;have C0:=Ot.new wr x 138;have b1:=aU wr (.cells (wH x) 138);have bw:=aA hb b1;have CP:=zZ aB aS aZ aV x (wr.alloc (.cells (wH x) 138)) ((hP x hmem).below bw ai) (hE.below bw ai);obtain⟨c0,c1,c2,c3,c4⟩:=hC;have HX:=aj hx;clear hx;go_upto_region 5 with(go_at_call 82;refine CP.mono ?_;rintro e w1 ⟨hc,b2⟩;obtain⟨v,rfl,hv⟩:∃v,e=.returned v/\((ji x.s/\v=.nilIface)\/(¬ji x.s/\zY w1 v)):=(by rcases hc with⟨k1,k2⟩|⟨k1,v,k2,k3⟩;exact⟨_,k2,.inl ⟨k1,rfl⟩⟩;exact⟨v,k3,.inr ⟨k1,k2⟩⟩));clear hc CP;have Om:=aA bw b2;rcases hv with⟨hok,rfl⟩|⟨hno,hv⟩
      · go_wp2_with fail
        go_roundw
        case rel=>exact⟨k+1,by omega,by go_num,fun y hy=>by rw[List.take_add_one,HX.out] at hy;rcases List.mem_append.1 hy with hy|hy;exact hrt y hy;simp at hy;subst hy;exact hok,Om⟩
        case measure=>simp[intOf];omega
      · have WP:=wJ aB aS aZ aV v w1 hv (hE.below Om ai)
        have key:∀v',v'=v->((∃a,v'=Value.iface 390 (.pointer (some a)))\/(∃a,v'=Value.iface 113 (.pointer (some a)))):=fun v' e=>by
          subst e;rcases hv with h|⟨pb,t, -,h⟩
          · exact .inl h
          · exact .inr ⟨_,h⟩
        have key:=key v rfl;clear hv;rcases key with⟨a,rfl⟩|⟨a,rfl⟩
        · go_wp2_with(go_at_call 83;refine WP.mono ?_;rintro e w2 ⟨⟨a2,rfl⟩,b3⟩)
          go_ret;have wE:=aA Om b3;exact⟨.inr ⟨⟨x,hmem,hno⟩,_,rfl⟩,wE.alloc wE.size _⟩
        · go_wp2_with(go_at_call 83;refine WP.mono ?_;rintro e w2 ⟨⟨a2,rfl⟩,b3⟩)
          go_ret;have wE:=aA Om b3;exact⟨.inr ⟨⟨x,hmem,hno⟩,_,rfl⟩,wE.alloc wE.size _⟩
    · obtain rfl:k=l.length:=by omega
      go_wp2_with fail;go_ret;rw[List.take_length] at hrt;exact⟨.inl ⟨hrt,rfl⟩,hb⟩
end
section
open Go.RowKit Go.Shelf
set_option maxRecDepth 100000
attribute [local go_sem] Oper.semAt_some
structure BkI (w0:ag) where
 ix:Nat
 x:P5
 hp:eO w0 x.o x.s.pts
 ok:ji x.s
abbrev bkV {w0:ag}(e:BkI w0):Array ah:=#[aa e.ix,UC e.x]
theorem a1B (w0:ag)(l:List P5)(hP:iK w0 l)(hk:∀x∈l,ji x.s):∀n,n<=l.length->∃xs:List (BkI w0),xs.length=n/\xs.map (·.x)=(l.take n).reverse/\∀k e,xs[k]? =some e->e.ix=n-1-k
 |0,_=>⟨[],rfl,rfl,fun k e h=>by simp at h⟩
 |n+1,hn=>by
  obtain⟨xs,h1,h2,h3⟩:=a1B w0 l hP hk n (by omega);have hl:l[n]? =some l[n]:=List.getElem?_eq_getElem (by omega);have hm:l[n]∈l:=List.getElem_mem _;refine⟨⟨n,l[n],hP _ hm,hk _ hm⟩::xs,by simp[h1],?_,fun k e h=>?_⟩
  ·rw[List.map_cons,h2];have e:l.take (n+1)=l.take n++[l[n]]:=Hl l n (by omega);rw[e,List.reverse_append];rfl
  ·cases k with
   |zero=>simp at h;rw[<- h];simp
   |succ k=>have:=h3 k e (by simpa using h);omega
def bkT (Bs:Nat)(o:Option Addr)(l:List P5)(k:Nat):Prop:=k=Bs\/(l≠[]/\∃off,o=some ⟨k,off,none⟩)
theorem gV.kept {w w':ag}{o:Option Addr}{l:List P5}{Bs:Nat}(h:gV w o l)(hk:qR (bkT Bs o l) w w'):gV w' o l:=fun i a ha=>by
 obtain⟨b,off,h1,c0,c1,c2,c3,c4⟩:=h i a ha;have hb:=hk b (.inr ⟨by rintro rfl;simp at ha,off,h1⟩);exact⟨b,off,h1,(cell_of_heap (p:=⟨b,_,none⟩) hb).trans c0,(cell_of_heap (p:=⟨b,_,none⟩) hb).trans c1,(cell_of_heap (p:=⟨b,_,none⟩) hb).trans c2,(cell_of_heap (p:=⟨b,_,none⟩) hb).trans c3,(cell_of_heap (p:=⟨b,_,none⟩) hb).trans c4⟩
theorem UI (l:List P5)(w0:ag)(xs:List (BkI w0))(hxl:xs.length=l.length)(hxs:xs.map (·.x)=l.reverse)(hix:∀k e,xs[k]? =some e->e.ix=l.length-1-k)(hl:l.length<=1000)(o:Option Addr)(cap n Bs:Nat)(hB:w0.heap[Bs]? =some (.cells #[.slice o l.length cap] 73))(hP:gV w0 o l):
  SeqStopsK Fence.wide n prog 184 #[ay Bs] bkV (qR (bkT Bs o l)) (fun ys=>ys=xs) (fun p=>p<+:xs) xs.length w0:=by
 intro L J Jx W hW hJ hJx hY h0;have hBl:Bs<w0.heap.size:=(Array.getElem?_eq_some_iff.1 hB).1;have hBW:W.heap[Bs]? =some (.cells #[.slice o l.length cap] 73):=(hW.block Bs hBl).trans hB;have c0:W.cell? (ak Bs 0)=some (.slice o l.length cap):=by simp[World.cell?,hBW]
 have hPW:=hP.below hW ai;refine callsIn_of_wp func184 rfl trivial ?_ rfl;simp only[ntmps184,List.size_toArray,List.length_cons,List.length_nil,Nat.reduceAdd,Nat.reduceSub,Array.replicate_succ,Array.replicate_zero,List.push_toArray,List.append_toArray,List.nil_append,List.cons_append]
 gi_wp2
 gi_loopw [3] (fun i wr=>∃k:Nat,k<=l.length/\i=aa ((l.length:Int)-1-k)/\J (xs.take k) wr/\qR (bkT Bs o l) W wr) (fun i _=>(intOf i+1).toNat)
 case atStart=>exact⟨0,Nat.zero_le _,by simp,h0,qR.refl _⟩
 case round=>
  obtain⟨k,hk,rfl,hJs,hnx⟩:=hrel;by_cases hlt:k<l.length
  ·have hkx:k<xs.length:=by omega
   obtain⟨x,hxk⟩:∃x,xs[k]? =some x:=⟨_,List.getElem?_eq_getElem hkx⟩;have hi:=hix k x hxk;have hge:l[l.length-1-k]? =some x.x:=by
    have h1:(xs.map (·.x))[k]? =some x.x:=by rw[List.getElem?_map,hxk];rfl
    rw[hxs,List.getElem?_reverse hlt] at h1;exact h1
   have hts:xs.take (k+1)=xs.take k++[x]:=by rw[List.take_add_one,hxk];rfl
   have hpl:(xs.take k).length<xs.length:=by rw[List.length_take];omega
   obtain⟨j,hj⟩:∃j:Nat,l.length-1-k=j:=⟨_,rfl⟩;rw[hj] at hi hge;have hjz:(l.length:Int)-1-k=(j:Int):=by omega
   have hjl:j<l.length:=by omega
   have ahZ:(j:Int)<(l.length:Int):=by omega
   obtain⟨bb,off,ho,q0,q1,q2,q3,q4⟩:=hPW.kept hnx j x.x hge;have cB:=(cell_of_heap (p:=⟨Bs,0,none⟩) (hnx Bs (.inl rfl))).trans c0;subst ho;obtain⟨fn,tmps,assign,body,hy,hR⟩:=hY (xs.take k) x wr hJs hpl;have HTS:=aj hts;have HJ:Hid (j+k+1=l.length):=(by omega:j+k+1=l.length);rw[hjz];unfold bkV at hy;rw[hi] at hy;clear hts hpl hge hi hj hxk hjz
   gi_wp2
   refine⟨(fun h=>by cases h),hR.mono ?_⟩;rintro e W3 (⟨rfl,hJ3,hk3⟩|⟨rfl,hJx3⟩)
   ·gi_wp2
    go_roundw
    case rel=>exact⟨k+1,by omega,by have:=HJ.out;congr 1;omega,by rw[HTS.out];exact hJ3,hnx.trans hk3⟩
    case measure=>simp[intOf]
   ·gi_wp2
    refine bodyPost_ret (results_none rfl _ _ _) rfl ?_;exact⟨⟨_,rfl⟩,.inr ⟨_,by rw[<- HTS.out];exact List.take_prefix _ _,hJx3⟩⟩
  ·obtain rfl:k=l.length:=by omega
   have hz:(l.length:Int)-1-(l.length:Nat)= -1:=by omega
   rw[hz]
   gi_wp2
   go_end0
   exact⟨⟨_,rfl⟩,.inl ⟨_,by rw[List.take_of_length_le (by omega)],hJs⟩⟩
theorem Fq (o:Option Addr)(n c:Nat)(W:ag):ax 134 #[.slice o n c] W fun e w'=>e=.returned (.func (.func 184) #[] #[ay W.heap.size])/\w'=W.alloc (.cells #[.slice o n c] 73):=by
 go_enter func134,ntmps134;go_wp2;go_ret;exact⟨rfl,rfl⟩
structure ShI (p:Qt)(B1 B2 N:Nat)(W:ag):Prop where
 f:Four W B1 (aa p.xn) (aa p.xd) (aa p.yn) (aa p.yd)
 r:W.heap[B2]? =some (.cells #[.string ⟨#[]⟩] 9)
 sz:N<=W.heap.size
theorem ShI.below {p:Qt}{B1 B2 N:Nat}{A B:ag}(h:ShI p B1 B2 N A)(hb:Below A.heap.size A B):ShI p B1 B2 N B:=
 ⟨h.f.below hb ai,(hb.block _ (Array.getElem?_eq_some_iff.1 h.r).1).trans h.r,Nat.le_trans h.sz hb.size⟩
theorem Hz {A C:ag}{row:Option Nat}{U k:Nat}{o:Obj}(h:A.heap[k]? =some o)(hk:k<U)(hg:A.grownBy C row)(hr:∀r,row=some r->U<=r/\∃o:Obj,A.heap[r]? =some o/\o.isCells=false):C.heap[k]? =some o:=
 (hg.block k (Array.getElem?_eq_some_iff.1 h).1 (fun e=>by have:=(hr k e.symm).1;omega)).trans h
theorem I4 {w:ag}{b:Nat}{v:ah}{t:TypeId}(h:w.heap[b]? =some (.cells #[v] t))(u:ah):(w.setCell ⟨b,0,none⟩ u).heap[b]? =some (.cells #[u] t):=by
 rw[heap_setCell_same w b 0 _ _ _ h];rfl
theorem qU {w:ag}{b:Nat}{v:ah}{t:TypeId}(h:w.heap[b]? =some (.cells #[v] t)):w.cell? (ak b 0)=some v:=by simp[World.cell?,h]
theorem E9 {w:ag}{b:Nat}{v:ah}{t:TypeId}(h:w.heap[b]? =some (.cells #[v] t)):w.frozen? ⟨b,0,none⟩=false:=by
 unfold World.frozen?;rw[h];simp
def A8 {w0:ag}(p:Qt)(pre:List (BkI w0)):Prop:=∀e∈pre,holdB e.x.s.pts e.x.s.rule p=false
theorem A8.snoc {w0:ag}{p:Qt}{pre:List (BkI w0)}{e:BkI w0}(h:A8 p pre)(he:holdB e.x.s.pts e.x.s.rule p=false):A8 p (pre++[e]):=fun x hx=>by
 rcases List.mem_append.1 hx with hx|hx
 ·exact h x hx
 ·simp at hx;subst hx;exact he
theorem A8.pm {w0:ag}{p:Qt}{pre:List (BkI w0)}(h:A8 p pre):∀s∈pre.map (·.x.s),holdB s.pts s.rule p=false:=fun s hs=>by
 obtain⟨e,he,rfl⟩:=List.mem_map.1 hs;exact h e he
theorem LY (aB aS aZ aV:Addr)(l:List P5)(o:Option Addr)(cap:Nat)(p:Qt)(w:ag)(hl:l.length<=1000)(h:gV w o l)(hP:iK w l)(hk:∀x∈l,ji x.s)(hp:PI p)(hpe:gH p=0)(hE:EP aB aS aZ aV w):
  CallsIn Fence.wide 9 prog 88 #[.slice o l.length cap,lN p] w fun e W=>e=.returned (.string (gI (sP l) p))/\Below w.heap.size w W:=by
 refine callsIn_of_wp_marks func88 rfl trivial ?_ rfl;simp only[ntmps88,List.size_toArray,List.length_cons,List.length_nil,Nat.reduceAdd,Nat.reduceSub,Array.replicate_succ,Array.replicate_zero,List.push_toArray,List.append_toArray,List.nil_append,List.cons_append]
 gi_wp2
 obtain⟨U,hU⟩:∃U,(w.alloc (.cells #[aa p.xn,aa p.xd,aa p.yn,aa p.yd] 177)).alloc (.cells #[.string ⟨#[]⟩] 9)=U:=⟨_,rfl⟩;have F0:=Four.new w (aa p.xn) (aa p.xd) (aa p.yn) (aa p.yd) 177;have b0:=aU w (.cells #[aa p.xn,aa p.xd,aa p.yn,aa p.yd] 177);have b1:=aU (w.alloc (.cells #[aa p.xn,aa p.xd,aa p.yn,aa p.yd] 177)) (.cells #[.string ⟨#[]⟩] 9);have r1:=World.alloc_heap_new (w.alloc (.cells #[aa p.xn,aa p.xd,aa p.yn,aa p.yd] 177)) (.cells #[.string ⟨#[]⟩] 9);have F1:=F0.below b1 ai;rw[show(w.alloc (.cells #[aa p.xn,aa p.xd,aa p.yn,aa p.yd] 177)).heap.size=w.heap.size+1 from by simp] at r1;have bU:=aA b0 b1;rw[hU] at F1 r1 bU;rw[hU];clear hU F0 b0 b1;refine⟨trivial,(callsIn_wide.2 (Fq o l.length cap U)).mono ?_⟩;rintro e w3 ⟨rfl,hw3⟩;have b3:=aU U (.cells #[.slice o l.length cap] 73);have hX:w3.heap[U.heap.size]? =some (.cells #[.slice o l.length cap] 73):=by rw[hw3];exact World.alloc_heap_new U _
 rw[<- hw3] at b3;clear hw3;have wE:=aA bU b3;have hlt3:U.heap.size<w3.heap.size:=(Array.getElem?_eq_some_iff.1 hX).1;have hP3:=hP.below wE ai;have h3:=h.below wE ai;have LZ:=hE.below wE ai;obtain⟨xs,hx1,hx2,hx3⟩:=a1B w3 l hP3 hk l.length ai;rw[List.take_length] at hx2;have hUs:w.heap.size+1<U.heap.size:=(Array.getElem?_eq_some_iff.1 r1).1;have DZ:∀k,bkT U.heap.size o l k->k<w3.heap.size/\k≠w.heap.size+1:=fun k hk=>by
  rcases hk with rfl|⟨hne,off,ho⟩
  ·exact⟨hlt3,by omega⟩
  ·cases l with
   |nil=>exact absurd rfl hne
   |cons a l=>
    obtain⟨b,off',e1,h2⟩:=h 0 a rfl;rw[ho] at e1;cases e1;have hk:=aC h2.c0;simp at hk;exact⟨by have:=wE.size;omega,by omega⟩
 have Yw:ShI p w.heap.size (w.heap.size+1) 0 w3:=ShI.below ⟨F1,r1,Nat.zero_le _⟩ b3;have I0:ShI p w.heap.size (w.heap.size+1) w3.heap.size w3:=⟨Yw.f,Yw.r,Nat.le_refl _⟩;have hmap:xs.map (·.x.s)=(sP l).reverse:=by
  have:(xs.map (·.x)).map (·.s)=(l.reverse).map (·.s):=by rw[hx2]
  rw[List.map_map] at this;rw[sP,<- List.map_reverse,<- this];rfl
 have HM:=aj hmap;have hseq:=UI l w3 xs hx1 hx2 hx3 hl o cap (9-1) U.heap.size hX h3;clear Yw hx1 hx2 hx3 hmap F1 r1
 gi_wp2
 refine wpIn_rangeFunc_ownH rfl (by omega) (gf:=184) (lb:=#[ay U.heap.size]) rfl trivial (enters_of func184 (by kernel_rfl) rfl)
  hseq qR.trans (qR.put (fun k hk=>(DZ k hk).1)) (Below.refl _ _) (fun _=>rfl)
  (fun pre W=>ShI p w.heap.size (w.heap.size+1) w3.heap.size W/\Below w.heap.size w W/\Below w3.heap.size w3 W/\A8 p pre)
  (fun c pre W=>c=.ret/\∃UJ e,pre=UJ++[e]/\A8 p UJ/\holdB e.x.s.pts e.x.s.rule p=true/\W.heap[w.heap.size+1]? =some (.cells #[.string e.x.s.fill] 9)/\Below w.heap.size w W)
  ?own ?aax
  ⟨I0,wE,Below.refl _ _,fun e he=>by cases he⟩
  (fun x a' W=>∃Bx,Ot W Bx 0 x.x/\a'={tmps:=#[.slice o l.length cap,lN p,undef,ay w.heap.size,.pointer (some ⟨w.heap.size+1,0,none⟩),undef,ay Bx,undef,undef,.slice o l.length cap,.func (.func 184) #[] #[ay U.heap.size],aa x.ix,UC x.x,undef,undef,undef,undef,undef,undef,undef,undef,undef,undef,undef,undef],defers:=[]})
  ?a6u
  ?assign ?body ?done ?stop
 case own=>
  intro pre A B row hs hg hr;obtain⟨hI,hB,hB3,hn⟩:=hs;have hr':∀r,row=some r->∃o:Obj,A.heap[r]? =some o/\o.isCells=false:=fun r e=>(hr r e).2;refine⟨⟨hI.f.kept' hg hr',Hz hI.r (by omega) hg hr,Nat.le_trans hI.sz hg.size⟩,?_,?_,hn⟩
  ·exact⟨hg.os.trans hB.os,hg.tape.trans hB.tape,hg.output.trans hB.output,Nat.le_trans hB.size hg.size,fun k hk=>(hg.block k (Nat.lt_of_lt_of_le hk hB.size) (fun e=>by have:=(hr k e.symm).1;omega)).trans (hB.block k hk)⟩
  ·exact⟨hg.os.trans hB3.os,hg.tape.trans hB3.tape,hg.output.trans hB3.output,Nat.le_trans hB3.size hg.size,fun k hk=>(hg.block k (Nat.lt_of_lt_of_le hk hB3.size) (fun e=>by have:=(hr k e.symm).1;omega)).trans (hB3.block k hk)⟩
 case aax=>
  intro c pre A B row hs hg hr;obtain⟨hc,UJ,e,h1,h2,h3',h4,hB⟩:=hs;exact⟨hc,UJ,e,h1,h2,h3',Hz h4 (by omega) hg hr,⟨hg.os.trans hB.os,hg.tape.trans hB.tape,hg.output.trans hB.output,Nat.le_trans hB.size hg.size,fun k hk=>(hg.block k (Nat.lt_of_lt_of_le hk hB.size) (fun e=>by have:=(hr k e.symm).1;omega)).trans (hB.block k hk)⟩⟩
 case a6u=>
  intro x a' s A B row hs hg hr;obtain⟨Bx,hC,ha⟩:=hs;have hr':∀r,row=some r->∃o:Obj,A.heap[r]? =some o/\o.isCells=false:=fun r e=>(hr r e).2;exact⟨Bx,⟨cell_kept hC.c0 hg hr',cell_kept hC.c1 hg hr',cell_kept hC.c2 hg hr',cell_kept hC.c3 hg hr',cell_kept hC.c4 hg hr'⟩,ha⟩
 case assign=>
  rintro L pre x W K ⟨hI,hB,hB3,hn⟩ hK
  gi_wp2
  have k1:=aU W (.cells (wH x.x) 138);exact hK _ _ ((KeepsOthers.alloc _ _).from _) (qR.of_below k1 (fun j hj=>by have h1:=(DZ j hj).1;have h2:=hI.sz;omega)) ⟨hI.below k1,aA hB k1,aA hB3 k1,hn⟩ ⟨W.heap.size,Ot.new W x.x 138,rfl⟩
 case body=>
  rintro L pre x a' W hl' hr ⟨hI,hB,hB3,hn⟩ ⟨Bx,⟨x0,x1,x2,x3,x4⟩,rfl⟩ hlt;have HO:=Hw aB aS aZ aV x.x.s.pts x.x.o x.x.cap p x.x.s.rule W (x.hp.below hB3 ai) hp (LZ.below hB3 ai) x.ok.1 hpe x.ok.2;obtain⟨⟨z0,z1,z2,z3⟩,hr0,hsz⟩:=id hI;have cr:=qU hr0;have fr:=E9 hr0;have HI:=aj hI;clear hI hr0;cases hh:holdB x.x.s.pts x.x.s.rule p with
  |false=>
   rw[hh] at HO;have HH:=aj hh;clear hh
   gi_wp2_with (refine⟨trivial,?_⟩;gi_at_call 129;refine(CallsIn.inRound L (callsIn_wide.2 HO)).mono ?_;rintro e w' ⟨rfl,hb⟩)
   exact⟨(sQ hb).from _,qR.of_below hb (fun j hj=>by have h1:=(DZ j hj).1;omega),HI.out.below hb,aA hB hb,aA hB3 hb,hn.snoc HH.out⟩
  |true=>
   rw[hh] at HO;have HH:=aj hh;clear hh
   gi_wp2_with (refine⟨trivial,?_⟩;gi_at_call 129;refine(CallsIn.inRound L (callsIn_wide.2 HO)).mono ?_;rintro e w' ⟨rfl,hb⟩;have cr':=(hb.cell (aC cr)).trans cr;have fr':=(hb.frozen (aC cr)).trans fr;have x2':=(hb.cell (aC x2)).trans x2)
   have hI':=HI.out.below hb;exact⟨((sQ hb).trans (KeepsOthers.setCell _ _ _)).from _,rfl,pre,x,rfl,hn,HH.out,I4 hI'.r _,(aA hB hb).setCell (by simp) _⟩
 case done=>
  rintro D ys W hD rfl ⟨hI,hB,hB3,hn⟩ hK;have hr0:=hI.r;have cr:=qU hr0;have fr:=E9 hr0;have hsh:gI (sP l) p=a2y:=by
   unfold gI;rw[<- HM.out];exact Hq _ _ hn.pm
  gi_wp2
  have hK':=(KeepsOthers.setCell W ⟨w.heap.size+1,0,none⟩ (.string ⟨#[46]⟩)).same D _ hK rfl;refine⟨by simp,.inl ⟨_,_,rfl,run_takeDeferred hK',?_⟩⟩;have hr2:=I4 hr0 (.string ⟨#[46]⟩);have hr3:=(World.putObj_heap_other (w:=W.setCell ⟨w.heap.size+1,0,none⟩ (.string ⟨#[46]⟩)) (o:=.deferred none) (show w.heap.size+1≠D by omega)).trans hr2;have oc:=qU hr3;refine⟨.string ⟨#[46]⟩,?_,by rw[hsh];rfl,(hB.setCell (by simp) _).trans (belowK_b (w:=w) ai _ D _ _ (by have:=wE.size;omega) hK' rfl rfl)⟩;simp[results,results88,go_sem,oc]
 case stop=>
  rintro D c pre W hD hpre ⟨rfl,UJ,e,rfl,hn,hh,hr0,hB⟩ hK;have hsh:gI (sP l) p=e.x.s.fill:=by
   unfold gI;obtain⟨rest,hrest⟩:=hpre;rw[<- HM.out,<- hrest,List.map_append,List.map_append,List.append_assoc];exact LW _ _ _ _ hn.pm hh
  gi_wp2
  refine⟨by simp,.inl ⟨_,_,rfl,run_takeDeferred hK,?_⟩⟩;have hr3:=(World.putObj_heap_other (w:=W) (o:=.deferred none) (show w.heap.size+1≠D by omega)).trans hr0;have oc:=qU hr3;refine⟨.string e.x.s.fill,?_,by rw[hsh],hB.trans (belowK_b (w:=w) ai W D _ _ (by have:=wE.size;omega) hK rfl rfl)⟩;simp[results,results88,go_sem,oc]
theorem I5 (aB aS aZ aV:Addr)(l:List P5)(o:Option Addr)(cap:Nat)(p:Qt)(w:ag)(hl:l.length<=1000)(h:gV w o l)(hP:iK w l)(hk:∀x∈l,ji x.s)(hp:PI p)(hpe:gH p=0)(hE:EP aB aS aZ aV w):
  ax 88 #[.slice o l.length cap,lN p] w fun e W=>e=.returned (.string (gI (sP l) p))/\Below w.heap.size w W:=callsIn_wide.1 (LY aB aS aZ aV l o cap p w hl h hP hk hp hpe hE)
end
end Go.Proofs.YtjfiehbcamfdfaaGreatDoor

/-
  Parts of the proof.
-/
import Derived.Test.YtjfiehbcamfdfaaGreatDoorQy11
namespace Go.Proofs.YtjfiehbcamfdfaaGreatDoor
open Go.Proofs.Tryz
section
open Go.RowKit
structure E4 (aT aB aS:Addr)(w:World):Prop where
 e3:E3 aB aS aB w
 t:w.cell? (ag 1 0)=some (.iface 390 (.pointer (some aT)))
theorem E4.below {aT aB aS:Addr}{w w':World}{B:Nat}(h:E4 aT aB aS w)(hb:Below B w w')(hB:w.heap.size<=B):E4 aT aB aS w':=⟨h.e3.below hb hB,(hb.cell (Nat.lt_of_lt_of_le (ay h.t) hB)).trans h.t⟩
theorem l9 {m:Mv}(h:m.ok):m.i64:=⟨iL h.1,iL h.2.1,iL h.2.2.1,iL h.2.2.2.1,iL h.2.2.2.2.1,iL h.2.2.2.2.2⟩
end
section
open Go.RowKit
set_option maxHeartbeats 8000000
theorem a3e (b o cap B:Nat)(s1 s2:ByteArray)(x1 x2:Fr)(r:Mv)(W:World)(hB:W.cell? (ag B 0)=some (.func (.func 267) #[] #[]))(h1:W.cell? (ag b o)=some (.string s1))(h2:W.cell? (ag b (o+1))=some (.string s2))
  (R1:∀V,Below W.heap.size W V->ak 232 #[.string s1] V fun e w'=>e=.returned (.tuple #[.agg #[aa x1.n,aa x1.d],.nilIface])/\Below V.heap.size V w')
  (R2:∀V,Below W.heap.size W V->ak 232 #[.string s2] V fun e w'=>e=.returned (.tuple #[.agg #[aa x2.n,aa x2.d],.nilIface])/\Below V.heap.size V w')
  (HOW:∀V g c,Below W.heap.size W V->V.cell? (ag g 0)=some (aa x1.n)->V.cell? (ag g 1)=some (aa x1.d)->V.cell? (ag g 2)=some (aa x2.n)->V.cell? (ag g 3)=some (aa x2.d)->ak 267 #[.slice (some ⟨g,0,none⟩) 2 c] V fun e w'=>e=.returned (mv r)/\Below V.heap.size V w'):
  ak 284 #[.slice (some ⟨b,o,none⟩) 2 cap,aj B] W fun e w'=>e=.returned (.tuple #[mv r,.nilIface])/\Below W.heap.size W w':=by
 have L0:=(Below.refl W.heap.size W).alloc eU (.cells zA 129);have B0:=bN.new W zA 129;have g1:=fun o=>ah o h1;obtain⟨i0,hi,hz0,hz1,hz2⟩:=info_parts uY;go_enter func284,ntmps284;go_wp2;refine wp_loop_rounds 3 ?_;rw[rounds_succ];go_wp2_with(first|(at_builtin;refine wpList_append_own_at _ rfl _ _ 322 rfl (W.heap.size+1) 127 i0 (.agg #[aa 0,aa 0]) 2 16 underlying322 hi hz0 hz1 hz2 rfl (by decide) (.slice none 0 0) 0 [] rfl O1 ⟨w1.heap.size+1,0,none⟩ 1 1 [aa x1.n,aa x1.d] rfl rfl (wU (by simp)) Qy (by unfold maxLen;omega) (by omega) (by simp;omega) ?_;intro v1 V1 hown1 hgrow1 _ UH;have L2:=((L1.alloc (by omega) _).alloc (by simp;omega) _).grown hgrow1 (by simp;omega) (fun k e=>by simp[Value.ownBlock] at e);have B2:=((B1.alloc _).alloc _).grown hgrow1 (by simp[Value.ownBlock]);have z1:=hgrow1.size;simp only[World.size_alloc] at z1;have g2:=(L2.cell (p:=⟨b,o+1,none⟩) (ay h2)).trans h2)|(go_at_call_of 232 s1;refine(R1 _ L0).mono ?_;rintro e w1 ⟨rfl,hb1⟩;have GH:=hb1.size;simp only[World.size_alloc] at GH;have L1:=(L0.trans (hb1.mono (by simp)));have B1:=B0.below hb1 eU;have O1:((w1.alloc (.cells #[aa x1.n,aa x1.d] 127)).alloc (.cells #[aa x1.n,aa x1.d] 127)).ownsRow (W.heap.size+1) 127 2 (.slice none 0 0) 0 []:=World.ownsRow_nil _ _ _ _));rw[rounds_succ];go_wp2_with(first|(at_builtin;refine wpList_append_own_at _ rfl _ _ 322 rfl (W.heap.size+1) 127 i0 (.agg #[aa 0,aa 0]) 2 16 underlying322 hi hz0 hz1 hz2 rfl (by decide) v1 1 _ rfl O2 ⟨w2.heap.size+1,0,none⟩ 1 1 [aa x2.n,aa x2.d] rfl rfl (wU (by simp)) Qy (by unfold maxLen;omega) (by omega) (by simp;omega) ?_;intro v2 V2 hown2 hgrow2 _ a6J;have lo2:=Fu O2;have L4:=((L3.alloc (by omega) _).alloc (by simp;omega) _).grown hgrow2 (by simp;omega) (fun k e=>by have:=lo2 k e;omega);have B4:=((B3.alloc _).alloc _).grown hgrow2 (fun e=>by have:=lo2 _ e;omega);obtain⟨g,c2,rfl,hg1,hg2,hg3,hg4,hg5⟩:=lW hown2;have gB:=(L4.cell (p:=⟨B,0,none⟩) (ay hB)).trans hB)|(go_at_call_of 232 s2;refine(R2 _ L2).mono ?_;rintro e w2 ⟨rfl,hb2⟩;have Tt:=hb2.size;have L3:=L2.trans (hb2.mono (by omega));have B3:=B2.below hb2 eU;have O2:=((ownsRow_below hown1 hb2).alloc (.cells #[aa x2.n,aa x2.d] 127)).alloc (.cells #[aa x2.n,aa x2.d] 127)))
 rw[rounds_succ];go_wp2_with((go_at_call 267;refine(HOW _ g c2 L4 (hg5 0 _ rfl) (hg5 1 _ rfl) (hg5 2 _ rfl) (hg5 3 _ rfl)).mono ?_;rintro e w5 ⟨rfl,hb5⟩;have sz5:=hb5.size;have B5:=B4.below hb5 eU;obtain⟨mQ,A9,mV,Aa,mW,Ab,mX,Ac,rD,Fa,rE,Fb,rF,Fe,rG,Ff,rH,Fg,rJ,Fh,ic,oF,ig,oG⟩:=B5.six));refine bodyPost_ret (v:=.tuple #[mv r,.nilIface]) (by simp[results,results284,go_sem,mQ,mV,mW,mX,rD,rE,rF,rG,rH,rJ,ic,ig]) rfl ⟨rfl,?_⟩;exact aJ (R:=W.heap.size) eU (mL r) 0 (L4.trans (hb5.mono (by omega)))
theorem a7h (b o cap B:Nat)(s1:ByteArray)(x1:Fr)(r:Mv)(W:World)(hB:W.cell? (ag B 0)=some (.func (.func 269) #[] #[]))(h1:W.cell? (ag b o)=some (.string s1))
  (R1:∀V,Below W.heap.size W V->ak 232 #[.string s1] V fun e w'=>e=.returned (.tuple #[.agg #[aa x1.n,aa x1.d],.nilIface])/\Below V.heap.size V w')
  (HOW:∀V g c,Below W.heap.size W V->V.cell? (ag g 0)=some (aa x1.n)->V.cell? (ag g 1)=some (aa x1.d)->ak 269 #[.slice (some ⟨g,0,none⟩) 1 c] V fun e w'=>e=.returned (mv r)/\Below V.heap.size V w'):
  ak 284 #[.slice (some ⟨b,o,none⟩) 1 cap,aj B] W fun e w'=>e=.returned (.tuple #[mv r,.nilIface])/\Below W.heap.size W w':=by
 have L0:=(Below.refl W.heap.size W).alloc eU (.cells zA 129);have B0:=bN.new W zA 129;have g1:=fun o=>ah o h1;obtain⟨i0,hi,hz0,hz1,hz2⟩:=info_parts uY;go_enter func284,ntmps284;go_wp2;refine wp_loop_rounds 2 ?_;rw[rounds_succ];go_wp2_with(first|(at_builtin;refine wpList_append_own_at _ rfl _ _ 322 rfl (W.heap.size+1) 127 i0 (.agg #[aa 0,aa 0]) 2 16 underlying322 hi hz0 hz1 hz2 rfl (by decide) (.slice none 0 0) 0 [] rfl O1 ⟨w1.heap.size+1,0,none⟩ 1 1 [aa x1.n,aa x1.d] rfl rfl (wU (by simp)) Qy (by unfold maxLen;omega) (by omega) (by simp;omega) ?_;intro v1 V1 hown1 hgrow1 _ UH;have L2:=((L1.alloc (by omega) _).alloc (by simp;omega) _).grown hgrow1 (by simp;omega) (fun k e=>by simp[Value.ownBlock] at e);have B2:=((B1.alloc _).alloc _).grown hgrow1 (by simp[Value.ownBlock]);have z1:=hgrow1.size;simp only[World.size_alloc] at z1;obtain⟨g,c2,rfl,hg1,hg2,hg3,hg4,hg5⟩:=lW hown1;have gB:=(L2.cell (p:=⟨B,0,none⟩) (ay hB)).trans hB)|(go_at_call_of 232 s1;refine(R1 _ L0).mono ?_;rintro e w1 ⟨rfl,hb1⟩;have GH:=hb1.size;simp only[World.size_alloc] at GH;have L1:=(L0.trans (hb1.mono (by simp)));have B1:=B0.below hb1 eU;have O1:((w1.alloc (.cells #[aa x1.n,aa x1.d] 127)).alloc (.cells #[aa x1.n,aa x1.d] 127)).ownsRow (W.heap.size+1) 127 2 (.slice none 0 0) 0 []:=World.ownsRow_nil _ _ _ _));rw[rounds_succ];go_wp2_with((go_at_call 269;refine(HOW _ g c2 L2 (hg5 0 _ rfl) (hg5 1 _ rfl)).mono ?_;rintro e w5 ⟨rfl,hb5⟩;have sz5:=hb5.size;have B5:=B2.below hb5 eU;obtain⟨mQ,A9,mV,Aa,mW,Ab,mX,Ac,rD,Fa,rE,Fb,rF,Fe,rG,Ff,rH,Fg,rJ,Fh,ic,oF,ig,oG⟩:=B5.six));refine bodyPost_ret (v:=.tuple #[mv r,.nilIface]) (by simp[results,results284,go_sem,mQ,mV,mW,mX,rD,rE,rF,rG,rH,rJ,ic,ig]) rfl ⟨rfl,?_⟩;exact aJ (R:=W.heap.size) eU (mL r) 0 (L2.trans (hb5.mono (by omega)))
theorem VE {k:ByteArray}{kd:Kd}(h:qg k=some kd)(ht:kd≠.turn):J6 k kd:=by
 unfold qg at h;by_cases h1:k=DV
 ·rw[if_pos h1] at h;cases h;subst h1;exact Il
 ·rw[if_neg h1] at h;by_cases h2:k=wS
  ·rw[if_pos h2] at h;cases h;subst h2;exact Fp
  ·rw[if_neg h2] at h;by_cases h3:k=xR
   ·rw[if_pos h3] at h;cases h;exact(ht rfl).elim
   ·rw[if_neg h3] at h;by_cases h4:k=DY
    ·rw[if_pos h4] at h;cases h;subst h4;exact Im
    ·rw[if_neg h4] at h;cases h
theorem VF {k:ByteArray}(h:qg k=some .turn):k=xR:=by
 unfold qg at h;by_cases h1:k=DV
 ·rw[if_pos h1] at h;cases h
 ·rw[if_neg h1] at h;by_cases h2:k=wS
  ·rw[if_pos h2] at h;cases h
  ·rw[if_neg h2] at h;by_cases h3:k=xR
   ·exact h3
   ·rw[if_neg h3] at h;by_cases h4:k=DY
    ·rw[if_pos h4] at h;cases h
    ·rw[if_neg h4] at h;cases h
theorem Jt {mk:Fr->Fr->Mv}{a b:ByteArray}{m:Mv}(h:lG mk a b=(m,0)):xV a=0/\xV b=0/\m=mk (E8 a) (E8 b):=by
 unfold lG at h;by_cases h1:xV a=0
 ·rw[if_neg (by simp[h1])] at h;by_cases h2:xV b=0
  ·rw[if_neg (by simp[h2])] at h;exact⟨h1,h2,(congrArg Prod.fst h).symm⟩
  ·rw[if_pos h2] at h;exact(h2 (congrArg Prod.snd h)).elim
 ·rw[if_pos h1] at h;exact(h1 (congrArg Prod.snd h)).elim
theorem VG {mk:Fr->Mv}{a:ByteArray}{m:Mv}(h:rd1 mk a=(m,0)):xV a=0/\m=mk (E8 a):=by
 unfold rd1 at h;by_cases h1:xV a=0
 ·rw[if_neg (by simp[h1])] at h;exact⟨h1,(congrArg Prod.fst h).symm⟩
 ·rw[if_pos h1] at h;exact(h1 (congrArg Prod.snd h)).elim
theorem vJ {ws:List ByteArray}{o:Nat}(h:o+2<=ws.length):∃a b r,ws.drop o=a::b::r/\ws[o]? =some a/\ws[o+1]? =some b:=by
 have h1:o<ws.length:=by omega
 have h2:o+1<ws.length:=by omega
 exact⟨ws[o],ws[o+1],ws.drop (o+2),by rw[List.drop_eq_getElem_cons h1,List.drop_eq_getElem_cons h2],by simp[h1],by simp[h2]⟩
theorem drop_one {ws:List ByteArray}{o:Nat}(h:o+1<=ws.length):∃a r,ws.drop o=a::r/\ws[o]? =some a:=by
 have h1:o<ws.length:=by omega
 exact⟨ws[o],ws.drop (o+1),by rw[List.drop_eq_getElem_cons h1],by simp[h1]⟩
theorem rR {aT aB aS:Addr}{a:ByteArray}(hs:a.size<=1000000)(hr:xV a=0)(V:World)(h:E4 aT aB aS V):
  ak 232 #[.string a] V fun e w'=>e=.returned (.tuple #[.agg #[aa (E8 a).n,aa (E8 a).d],.nilIface])/\Below V.heap.size V w':=by
 have:=rO aT aB aS aB a V h.e3 h.t (by omega);rw[show(rd a.data.toList).c=0 from hr] at this;exact this
theorem jI {ws:List ByteArray}(hs:∀a∈ws,a.size<=1000000){o:Nat}{a:ByteArray}(h:ws[o]? =some a):a.size<=1000000:=hs a (List.mem_of_getElem? h)
theorem VH {aT aB aS:Addr}{W:World}(h:E4 aT aB aS W){ws:List ByteArray}(hs:∀a∈ws,a.size<=1000000){kd:Kd}(ht:kd≠.turn):UQ W ws kd:=by
 intro V o B cap m hV hB hf ho hk;have hE:=h.below hV eU;cases kd with
 |turn=>exact(ht rfl).elim
 |move=>
  obtain⟨a,b,r,hd,ha,hb⟩:=vJ ho;rw[hd] at hk;obtain⟨h1,h2,rfl⟩:=Jt hk;exact a2N W.heap.size o cap B a b (E8 a) (E8 b) _ V hf (fC hB ha) (fC hB hb) (fun U hU=>rR (jI hs ha) h1 U (hE.below hU eU)) (fun U hU=>rR (jI hs hb) h2 U (hE.below hU eU))
   (fun U g c hU k0 k1 k2 k3=>Qz g c (E8 a) (E8 b) U k0 k1 k2 k3)
 |scale=>
  obtain⟨a,b,r,hd,ha,hb⟩:=vJ ho;rw[hd] at hk;obtain⟨h1,h2,rfl⟩:=Jt hk;exact a3e W.heap.size o cap B a b (E8 a) (E8 b) _ V hf (fC hB ha) (fC hB hb) (fun U hU=>rR (jI hs ha) h1 U (hE.below hU eU)) (fun U hU=>rR (jI hs hb) h2 U (hE.below hU eU))
   (fun U g c hU k0 k1 k2 k3=>QA g c (E8 a) (E8 b) U k0 k1 k2 k3)
 |skew=>
  obtain⟨a,r,hd,ha⟩:=drop_one ho;rw[hd] at hk;obtain⟨h1,rfl⟩:=VG hk;exact a7h W.heap.size o cap B a (E8 a) _ V hf (fC hB ha) (fun U hU=>rR (jI hs ha) h1 U (hE.below hU eU))
   (fun U g c hU k0 k1=>UN g c (E8 a) U k0 k1)
theorem VI {W:World}{ws:List ByteArray}:UR W ws:=by
 intro V o cap m hV hB ho hk;obtain⟨a,r,hd,ha⟩:=drop_one ho;rw[hd] at hk;have hc:=fC hB ha;change Am a=(m,0) at hk;unfold Am at hk;by_cases h0:a=⟨#[48]⟩
 ·rw[if_pos h0] at hk;cases hk;subst h0;exact ve W.heap.size o cap V _ _ _ (.inl ⟨rfl,rfl,rfl⟩) hc
 ·rw[if_neg h0] at hk;by_cases h1:a=⟨#[49]⟩
  ·rw[if_pos h1] at hk;cases hk;subst h1;exact ve W.heap.size o cap V _ _ _ (.inr (.inl ⟨rfl,rfl,rfl⟩)) hc
  ·rw[if_neg h1] at hk;by_cases h2:a=⟨#[50]⟩
   ·rw[if_pos h2] at hk;cases hk;subst h2;exact ve W.heap.size o cap V _ _ _ (.inr (.inr (.inl ⟨rfl,rfl,rfl⟩))) hc
   ·rw[if_neg h2] at hk;by_cases h3:a=⟨#[51]⟩
    ·rw[if_pos h3] at hk;cases hk;subst h3;exact ve W.heap.size o cap V _ _ _ (.inr (.inr (.inr ⟨rfl,rfl,rfl⟩))) hc
    ·rw[if_neg h3] at hk;cases hk
theorem Bg:∀(R:List Mv) (j:Nat) (m:Mv),R[j]? =some m->∀i u,(uq m)[i]? =some u->(jV R)[j*12+i]? =some u
 |[],_,_,h,_,_,_=>by cases h
 |x::R,0,m,h,i,u,hu=>by
  simp at h;subst h;have hi:i<(uq x).length:=(List.getElem?_eq_some_iff.1 hu).1;show(uq x++jV R)[0*12+i]? =some u;rw[List.getElem?_append_left (by simpa using hi)];simpa using hu
 |x::R,j+1,m,h,i,u,hu=>by
  have:=Bg R j m (by simpa using h) i u hu;show(uq x++jV R)[(j+1)*12+i]? =some u;rw[List.getElem?_append_right (by simp;omega)];rw[show(j+1)*12+i-(uq x).length=j*12+i by simp;omega];exact this
end
section
open Go.RowKit
set_option maxHeartbeats 8000000
theorem ZN (g o c:Nat)(a:ByteArray)(aT:Addr)(W:World)(k0:W.cell? (ag g o)=some (.string a))(hT:W.cell? (ag 1 0)=some (.iface 390 (.pointer (some aT))))
  (h0:a≠⟨#[48]⟩) (h1:a≠⟨#[49]⟩) (h2:a≠⟨#[50]⟩) (h3:a≠⟨#[51]⟩):
  ak 268 #[.slice (some ⟨g,o,none⟩) 1 c] W fun e w'=>e=.returned (.tuple #[mv .zero,.iface 390 (.pointer (some aT))])/\Below W.heap.size W w':=by
 have e0:=qK (l:=[48]) h0;have e1:=qK (l:=[49]) h1;have e2:=qK (l:=[50]) h2;have e3:=qK (l:=[51]) h3;have k1:=fun o=>ah o k0;clear h0 h1 h2 h3;go_enter func268,ntmps268;go_wp2;have hF:∃U,W.alloc (.cells zA 129)=U/\bN U W.heap.size zA 129/\Below W.heap.size W U:=⟨_,rfl,bN.new W _ _,(Below.refl _ W).alloc eU _⟩;obtain⟨U,hU,B0,L0⟩:=hF;rw[hU];clear hU k1 k0 e0 e1 e2 e3;have cT:=(L0.cell (p:=⟨1,0,none⟩) (ay hT)).trans hT;have lT:=ay hT;simp only at lT;have nT:¬W.heap.size=1:=by omega
 obtain⟨mQ,A9,mV,Aa,mW,Ab,mX,Ac,rD,Fa,rE,Fb,rF,Fe,rG,Ff,rH,Fg,rJ,Fh,ic,oF,ig,oG⟩:=B0.six;go_region;go_wp2;refine bodyPost_ret (v:=.tuple #[mv .zero,.iface 390 (.pointer (some aT))]) (by simp[results,results268,go_sem,Mv.zero,Fr.zero,mQ,mV,mW,mX,rD,rE,rF,rG,rH,rJ,ic,ig]) rfl ⟨rfl,?_⟩;exact below_drewN (aJ (R:=W.heap.size) eU zL 0 L0) 1
theorem OP (b o cap B n:Nat)(s1:ByteArray)(a:Addr)(W:World)(hn:1<=n)(h1:W.cell? (ag b o)=some (.string s1))
  (R1:∀V,Below W.heap.size W V->ak 232 #[.string s1] V fun e w'=>e=.returned (.tuple #[.agg #[aa 0,aa 0],.iface 390 (.pointer (some a))])/\Below V.heap.size V w'):
  ak 284 #[.slice (some ⟨b,o,none⟩) n cap,aj B] W fun e w'=>e=.returned (.tuple #[mv .zero,.iface 390 (.pointer (some a))])/\Below W.heap.size W w':=by
 have L0:=(Below.refl W.heap.size W).alloc eU (.cells zA 129);have B0:=bN.new W zA 129;have g1:=fun o=>ah o h1;have hn':(0:Int)<(n:Int):=by omega
 go_enter func284,ntmps284;go_wp2;refine wp_loop_rounds 1 ?_;rw[rounds_succ];go_wp2_with((go_at_call_of 232 s1;refine(R1 _ L0).mono ?_;rintro e w1 ⟨rfl,hb1⟩;have GH:=hb1.size;simp only[World.size_alloc] at GH;have L1:=(L0.trans (hb1.mono (by simp)));have B1:=B0.below hb1 eU;obtain⟨mQ,A9,mV,Aa,mW,Ab,mX,Ac,rD,Fa,rE,Fb,rF,Fe,rG,Ff,rH,Fg,rJ,Fh,ic,oF,ig,oG⟩:=B1.Ut));refine bodyPost_ret (v:=.tuple #[mv .zero,.iface 390 (.pointer (some a))]) (by simp[results,results284,go_sem,Mv.zero,Fr.zero,mQ,mV,mW,mX,rD,rE,rF,rG,rH,rJ,ic,ig]) rfl ⟨rfl,?_⟩;exact aJ (R:=W.heap.size) eU zL 0 (L1.alloc L1.size _)
theorem ZO (b o cap B:Nat)(s1 s2:ByteArray)(x1:Fr)(a:Addr)(W:World)(h1:W.cell? (ag b o)=some (.string s1))(h2:W.cell? (ag b (o+1))=some (.string s2))
  (R1:∀V,Below W.heap.size W V->ak 232 #[.string s1] V fun e w'=>e=.returned (.tuple #[.agg #[aa x1.n,aa x1.d],.nilIface])/\Below V.heap.size V w')
  (R2:∀V,Below W.heap.size W V->ak 232 #[.string s2] V fun e w'=>e=.returned (.tuple #[.agg #[aa 0,aa 0],.iface 390 (.pointer (some a))])/\Below V.heap.size V w'):
  ak 284 #[.slice (some ⟨b,o,none⟩) 2 cap,aj B] W fun e w'=>e=.returned (.tuple #[mv .zero,.iface 390 (.pointer (some a))])/\Below W.heap.size W w':=by
 have L0:=(Below.refl W.heap.size W).alloc eU (.cells zA 129);have B0:=bN.new W zA 129;have g1:=fun o=>ah o h1;obtain⟨i0,hi,hz0,hz1,hz2⟩:=info_parts uY;go_enter func284,ntmps284;go_wp2;refine wp_loop_rounds 2 ?_;rw[rounds_succ];go_wp2_with(first|(at_builtin;refine wpList_append_own_at _ rfl _ _ 322 rfl (W.heap.size+1) 127 i0 (.agg #[aa 0,aa 0]) 2 16 underlying322 hi hz0 hz1 hz2 rfl (by decide) (.slice none 0 0) 0 [] rfl O1 ⟨w1.heap.size+1,0,none⟩ 1 1 [aa x1.n,aa x1.d] rfl rfl (wU (by simp)) Qy (by unfold maxLen;omega) (by omega) (by simp;omega) ?_;intro v1 V1 hown1 hgrow1 _ UH;have L2:=((L1.alloc (by omega) _).alloc (by simp;omega) _).grown hgrow1 (by simp;omega) (fun k e=>by simp[Value.ownBlock] at e);have B2:=((B1.alloc _).alloc _).grown hgrow1 (by simp[Value.ownBlock]);have z1:=hgrow1.size;simp only[World.size_alloc] at z1;have g2:=(L2.cell (p:=⟨b,o+1,none⟩) (ay h2)).trans h2)|(go_at_call_of 232 s1;refine(R1 _ L0).mono ?_;rintro e w1 ⟨rfl,hb1⟩;have GH:=hb1.size;simp only[World.size_alloc] at GH;have L1:=(L0.trans (hb1.mono (by simp)));have B1:=B0.below hb1 eU;have O1:((w1.alloc (.cells #[aa x1.n,aa x1.d] 127)).alloc (.cells #[aa x1.n,aa x1.d] 127)).ownsRow (W.heap.size+1) 127 2 (.slice none 0 0) 0 []:=World.ownsRow_nil _ _ _ _));rw[rounds_succ];go_wp2_with((go_at_call_of 232 s2;refine(R2 _ L2).mono ?_;rintro e w2 ⟨rfl,hb2⟩;have Tt:=hb2.size;have L3:=L2.trans (hb2.mono (by omega));have B3:=B2.below hb2 eU;obtain⟨mQ,A9,mV,Aa,mW,Ab,mX,Ac,rD,Fa,rE,Fb,rF,Fe,rG,Ff,rH,Fg,rJ,Fh,ic,oF,ig,oG⟩:=B3.Ut));refine bodyPost_ret (v:=.tuple #[mv .zero,.iface 390 (.pointer (some a))]) (by simp[results,results284,go_sem,Mv.zero,Fr.zero,mQ,mV,mW,mX,rD,rE,rF,rG,rH,rJ,ic,ig]) rfl ⟨rfl,?_⟩;exact aJ (R:=W.heap.size) eU zL 0 (L3.alloc L3.size _)
def eA (aT aB aS:Addr)(c:Nat):Addr:=if c=1 then aT else if c=2 then aB else aS
theorem a3f {aT aB aS:Addr}{c:Nat}(h:c=1\/c=2\/c=3):Lc aT aB aS aB c=.iface 390 (.pointer (some (eA aT aB aS c))):=by
 rcases h with rfl|rfl|rfl<;>rfl
theorem Bh (l:List UInt8):(rd l).c=0\/((rd l).c=1\/(rd l).c=2\/(rd l).c=3)/\(rd l).n=0/\(rd l).d=0:=by
 have hck:∀n d,(ck n d).c=0\/((ck n d).c=1\/(ck n d).c=2\/(ck n d).c=3)/\(ck n d).n=0/\(ck n d).d=0:=fun n d=>by
  unfold ck;split
  ·exact .inl rfl
  ·rename_i h;have:=dL n d;exact .inr ⟨by simp only;omega,rfl,rfl⟩
 unfold rd;split
 ·exact .inr ⟨.inl rfl,rfl,rfl⟩
 ·split
  ·exact hck _ _
  ·split
   ·exact hck _ _
   ·exact .inr ⟨.inl rfl,rfl,rfl⟩
theorem FV {aT aB aS:Addr}{a:ByteArray}(hs:a.size<=1000000)(hr:xV a≠0)(V:World)(h:E4 aT aB aS V):
  ak 232 #[.string a] V fun e w'=>e=.returned (.tuple #[.agg #[aa 0,aa 0],.iface 390 (.pointer (some (eA aT aB aS (xV a))))])/\Below V.heap.size V w':=by
 have:=rO aT aB aS aB a V h.e3 h.t (by omega);rcases Bh a.data.toList with h0|⟨h1,h2,h3⟩
 ·exact(hr h0).elim
 ·rw[h2,h3,a3f h1] at this;exact this
def MG (aT aB aS:Addr)(W:World)(ws:List ByteArray)(kd:Kd):Prop:=∀V o B cap c,Below W.heap.size W V->bN V W.heap.size (ws.map Value.string).toArray 9->o+kd.n<=ws.length->(E9 kd (ws.drop o)).2=c->c≠0->
 ak 284 #[.slice (some ⟨W.heap.size,o,none⟩) kd.n cap,aj B] V fun e w'=>e=.returned (.tuple #[mv .zero,.iface 390 (.pointer (some (eA aT aB aS c)))])/\Below V.heap.size V w'
def MH (aT aB aS:Addr)(W:World)(ws:List ByteArray):Prop:=∀V o cap c,Below W.heap.size W V->bN V W.heap.size (ws.map Value.string).toArray 9->o+1<=ws.length->(E9 .turn (ws.drop o)).2=c->c≠0->
 ak 268 #[.slice (some ⟨W.heap.size,o,none⟩) 1 cap] V fun e w'=>e=.returned (.tuple #[mv .zero,.iface 390 (.pointer (some (eA aT aB aS c)))])/\Below V.heap.size V w'
theorem VJ {aT aB aS:Addr}{V:World}(hE:E4 aT aB aS V){mk:Fr->Fr->Mv}{a b:ByteArray}{w0 o B cap c:Nat}(ha:a.size<=1000000)(hb:b.size<=1000000)(k1:V.cell? (ag w0 o)=some (.string a))(k2:V.cell? (ag w0 (o+1))=some (.string b))(h:(lG mk a b).2=c)(hc:c≠0):
  ak 284 #[.slice (some ⟨w0,o,none⟩) 2 cap,aj B] V fun e w'=>e=.returned (.tuple #[mv .zero,.iface 390 (.pointer (some (eA aT aB aS c)))])/\Below V.heap.size V w':=by
 unfold lG at h;by_cases h1:xV a=0
 ·rw[if_neg (by simp[h1])] at h;by_cases h2:xV b=0
  ·rw[if_neg (by simp[h2])] at h;exact(hc h.symm).elim
  ·rw[if_pos h2] at h;subst h;exact ZO w0 o cap B a b (E8 a) _ V k1 k2 (fun U hU=>rR ha h1 U (hE.below hU eU)) (fun U hU=>FV hb h2 U (hE.below hU eU))
 ·rw[if_pos h1] at h;subst h;exact OP w0 o cap B 2 a _ V (by decide) k1 (fun U hU=>FV ha h1 U (hE.below hU eU))
theorem QX {aT aB aS:Addr}{W:World}(h:E4 aT aB aS W){ws:List ByteArray}(hs:∀a∈ws,a.size<=1000000){kd:Kd}(ht:kd≠.turn):MG aT aB aS W ws kd:=by
 intro V o B cap c hV hB ho hk hc;have hE:=h.below hV eU;cases kd with
 |turn=>exact(ht rfl).elim
 |move=>
  obtain⟨a,b,r,hd,ha,hb⟩:=vJ ho;rw[hd] at hk;exact VJ hE (jI hs ha) (jI hs hb) (fC hB ha) (fC hB hb) hk hc
 |scale=>
  obtain⟨a,b,r,hd,ha,hb⟩:=vJ ho;rw[hd] at hk;exact VJ hE (jI hs ha) (jI hs hb) (fC hB ha) (fC hB hb) hk hc
 |skew=>
  obtain⟨a,r,hd,ha⟩:=drop_one ho;rw[hd] at hk;change(rd1 Mv.skew a).2=c at hk;unfold rd1 at hk;by_cases h1:xV a=0
  ·rw[if_neg (by simp[h1])] at hk;exact(hc hk.symm).elim
  ·rw[if_pos h1] at hk;subst hk;exact OP W.heap.size o cap B 1 a _ V (by decide) (fC hB ha) (fun U hU=>FV (jI hs ha) h1 U (hE.below hU eU))
theorem QY {aT aB aS:Addr}{W:World}(h:E4 aT aB aS W){ws:List ByteArray}:MH aT aB aS W ws:=by
 intro V o cap c hV hB ho hk hc;have hE:=h.below hV eU;obtain⟨a,r,hd,ha⟩:=drop_one ho;rw[hd] at hk;have hw:=fC hB ha;change(Am a).2=c at hk;unfold Am at hk;by_cases h0:a=⟨#[48]⟩
 ·rw[if_pos h0] at hk;exact(hc hk.symm).elim
 ·rw[if_neg h0] at hk;by_cases h1:a=⟨#[49]⟩
  ·rw[if_pos h1] at hk;exact(hc hk.symm).elim
  ·rw[if_neg h1] at hk;by_cases h2:a=⟨#[50]⟩
   ·rw[if_pos h2] at hk;exact(hc hk.symm).elim
   ·rw[if_neg h2] at hk;by_cases h3:a=⟨#[51]⟩
    ·rw[if_pos h3] at hk;exact(hc hk.symm).elim
    ·rw[if_neg h3] at hk;subst hk;exact ZN W.heap.size o cap a aT V hw hE.t h0 h1 h2 h3
end
section
open Go.RowKit
set_option maxHeartbeats 32000000
set_option maxRecDepth 20000
attribute [local go_sem] fq kV
theorem QZ {f:Nat}{k:ByteArray}{ws:List ByteArray}{acc R:List Mv}{c:Nat}(h:dV f (k::ws) acc=(R,c))(hf:1<=f):
    (qg k=none/\c=1)\/(∃kd,qg k=some kd/\ws.length<kd.n/\c=1)\/(∃kd,qg k=some kd/\kd.n<=ws.length/\(E9 kd ws).2=c/\c≠0)\/
      (∃f' kd m,f=f'+1/\qg k=some kd/\kd.n<=ws.length/\E9 kd ws=(m,0)/\dV f' (ws.drop kd.n) (acc++[m])=(R,c)):=by
  cases f with
  |zero=>omega
  |succ f=>
    unfold dV at h;cases hk:qg k with
    |none=>rw[hk] at h;exact .inl ⟨rfl,(congrArg Prod.snd h).symm⟩
    |some kd=>
      rw[hk] at h;simp only at h;by_cases hl:ws.length<kd.n
      · rw[if_pos hl] at h;exact .inr (.inl ⟨kd,rfl,hl,(congrArg Prod.snd h).symm⟩)
      · rw[if_neg hl] at h
        by_cases h0:(E9 kd ws).2=0
        · rw[if_pos h0] at h;exact .inr (.inr (.inr ⟨f,kd,_,rfl,rfl,by omega,Prod.ext rfl h0,h⟩))
        · rw[if_neg h0] at h
          have h1:(E9 kd ws).2=c:=congrArg Prod.snd h;exact .inr (.inr (.inl ⟨kd,rfl,by omega,h1,h1▸h0⟩))
theorem ZP {k:ByteArray}(h:qg k=none):k≠DV/\k≠wS/\k≠xR/\k≠DY:=by
  unfold qg at h;refine⟨fun e=>?_,fun e=>?_,fun e=>?_,fun e=>?_⟩
  · rw[if_pos e] at h;cases h
  all_goals
    subst e;revert h;decide+kernel
theorem FW (aT aB aS:Addr)(s:ByteArray)(ws:List ByteArray)(N:Nat)(R:List Mv)(c:Nat)(W:World)(hE:E4 aT aB aS W)(hs:s.size<4294967281)(hne:s.toList.isEmpty=false)(hN:Lib.countB s ⟨#[32]⟩+1=N)(hw:Lib.splitB ⟨#[32]⟩ 0 (Lib.countB s ⟨#[32]⟩) s=ws)(hlen:ws.length=N)(hN':N<=1000)
    (hR:dV N ws []=(R,c)) (KA:∀k kd,qg k=some kd->kd≠.turn->J6 k kd) (KT:∀k,qg k=some .turn->k=xR) (RA:∀kd,kd≠.turn->UQ W ws kd) (RT:UR W ws) (WA:∀kd,kd≠.turn->MG aT aB aS W ws kd) (WT:MH aT aB aS W ws):
    ak 198 #[.string s] W fun e w'=>((c=0/\∃v,e=.returned (.tuple #[v,.nilIface])/\w'.ownsRow (W.heap.size+1) 129 12 v R.length (jV R))\/(c≠0/\e=.returned (.tuple #[.slice none 0 0,.iface 390 (.pointer (some (eA aT aB aS c)))])))/\Below W.heap.size W w':=by
  have HS:=DZ s hs W;rw[hw,hN] at HS;clear hs;obtain⟨i0,hi,hz0,hz1,hz2⟩:=info_parts UI;go_enter func198,ntmps198;go_wp2_with(go_at_call 235;refine HS.mono ?_;rintro e w' ⟨rfl,rfl⟩)
  go_loopw [4,5] (fun lv wv wr=>∃(j r f:Nat) (acc:List Mv),j+r=N/\acc.length<=j/\(∃a,wv=.slice a r r/\(r≠0->a=some ⟨W.heap.size,j,none⟩))/\wr.ownsRow (W.heap.size+1) 129 12 lv acc.length (jV acc)/\bN wr W.heap.size (ws.map Value.string).toArray 9/\Below W.heap.size W wr/\r<=f/\dV f (ws.drop j) acc=(R,c)) (fun _ wv _=>lenOf wv)
  case atStart=>exact⟨0,N,N,[],by omega,by simp,⟨_,rfl,fun _=>rfl⟩,World.ownsRow_nil _ _ _ _,bN.new W _ _,(Below.refl _ W).alloc eU _,Nat.le_refl _,hR⟩
  case round=>
    obtain⟨j,r,f,acc,hjr,haj,⟨ad,rfl,had⟩,hown,hblk,hlow,hrf,hRf⟩:=hrel;cases r with
    |zero=>
      have hd:ws.drop j=[]:=List.drop_eq_nil_of_le (by omega);rw[hd] at hRf;have hacc:acc=R:=by cases f<;>exact congrArg Prod.fst hRf
      have hcc:c=0:=by cases f<;>exact(congrArg Prod.snd hRf).symm
      clear hRf;subst hacc hcc;go_wp2
      go_ret2
      exact⟨⟨_,rfl,hown⟩,hlow⟩
    |succ r=>
      obtain rfl:=had (by omega);clear had;obtain⟨k,hk,hd⟩:=drop_cons hlen hjr;rw[hd] at hRf;have abh:=QZ hRf (by omega);clear hRf hR;have c0:=fC hblk hk;clear hd;rcases abh with⟨hkd,rfl⟩|⟨kd,hkd,hnl,rfl⟩|⟨kd,hkd,hnl,hkr,hc⟩|⟨f',kd,m,hff,hkd,hnl,hkr,hRg⟩
      · obtain⟨q1,q2,q3,q4⟩:=ZP hkd
        have hKN:=fun V=>J5 k V q1 q2 q3 q4;clear q1 q2 q3 q4 KA RA RT WA WT;rcases Nat.eq_zero_or_pos r with hr0|hr1
        · subst hr0
          go_wp2_with(go_at_call 239;refine(hKN _).mono ?_;rintro e w1 ⟨rfl,hb1⟩;have L1:=hlow.trans (hb1.mono hlow.size));have L2:=L1.alloc L1.size (.cells #[aa 0,.nilFunc] 331);obtain⟨V,hV⟩:∃V,w1.alloc (.cells #[aa 0,.nilFunc] 331)=V:=⟨_,rfl⟩;rw[hV] at L2⊢;clear hV;have cT:=(hE.below L2 eU).t;clear hb1 hlow hblk hown c0 L1;go_region;go_wp2
          go_ret2
          exact⟨.inr ⟨by first|decide|exact hc,rfl⟩,below_drewN L2 1⟩
        · have hr1':(1:Int)<=(r:Int):=by omega
          go_wp2_with(go_at_call 239;refine(hKN _).mono ?_;rintro e w1 ⟨rfl,hb1⟩;have L1:=hlow.trans (hb1.mono hlow.size));have L2:=L1.alloc L1.size (.cells #[aa 0,.nilFunc] 331);obtain⟨V,hV⟩:∃V,w1.alloc (.cells #[aa 0,.nilFunc] 331)=V:=⟨_,rfl⟩;rw[hV] at L2⊢;clear hV;have cT:=(hE.below L2 eU).t;clear hb1 hlow hblk hown c0 L1;go_region;go_wp2
          go_ret2
          exact⟨.inr ⟨by first|decide|exact hc,rfl⟩,below_drewN L2 1⟩
      · rw[List.length_drop] at hnl
        by_cases ht:kd=.turn
        · subst ht
          have hkt:=KT k hkd;subst hkt;rw[show Kd.turn.n=1 from rfl] at hnl;have hr0:r=0:=by omega
          subst hr0;clear KA RA RT WA WT;go_wp2_with(go_at_call 239;refine(qG _).mono ?_;rintro e w1 ⟨rfl,hb1⟩;have L1:=hlow.trans (hb1.mono hlow.size);have B1:=hblk.below hb1 eU);have L2:=L1.alloc L1.size (.cells #[aa 1,.func (.func 268) #[] #[]] 331);obtain⟨V,hV⟩:∃V,w1.alloc (.cells #[aa 1,.func (.func 268) #[] #[]] 331)=V:=⟨_,rfl⟩;rw[hV] at L2⊢;clear hV;have cT:=(hE.below L2 eU).t;clear hb1 hlow hblk hown c0 L1;go_region;go_wp2
          go_ret2
          exact⟨.inr ⟨by first|decide|exact hc,rfl⟩,below_drewN L2 1⟩
        · have ZQ:=KA k kd hkd ht
          unfold J6 at ZQ;obtain⟨hn1,hn2⟩:=kd.n_pos;generalize kd.n=n at*;have hnr:r<n:=by omega
          have ZR:(r:Int)<(n:Int):=by omega
          clear KA RA RT WA WT;rcases Nat.eq_zero_or_pos r with hr0|hr1
          · subst hr0
            go_wp2_with(go_at_call 239;refine(ZQ _).mono ?_;rintro e w1 ⟨⟨B,hB,rfl,hBc⟩,hb1⟩;have L1:=hlow.trans (hb1.mono hlow.size);have B1:=hblk.below hb1 eU);have L2:=L1.alloc L1.size (.cells #[aa n,.func (.func 284) #[] #[aj B]] 331);obtain⟨V,hV⟩:∃V,w1.alloc (.cells #[aa n,.func (.func 284) #[] #[aj B]] 331)=V:=⟨_,rfl⟩;rw[hV] at L2⊢;clear hV;have cT:=(hE.below L2 eU).t;clear hb1 hlow hblk hown c0 L1;go_region;go_wp2
            go_ret2
            exact⟨.inr ⟨by first|decide|exact hc,rfl⟩,below_drewN L2 1⟩
          · have hr1':(1:Int)<=(r:Int):=by omega
            go_wp2_with(go_at_call 239;refine(ZQ _).mono ?_;rintro e w1 ⟨⟨B,hB,rfl,hBc⟩,hb1⟩;have L1:=hlow.trans (hb1.mono hlow.size);have B1:=hblk.below hb1 eU);have L2:=L1.alloc L1.size (.cells #[aa n,.func (.func 284) #[] #[aj B]] 331);obtain⟨V,hV⟩:∃V,w1.alloc (.cells #[aa n,.func (.func 284) #[] #[aj B]] 331)=V:=⟨_,rfl⟩;rw[hV] at L2⊢;clear hV;have cT:=(hE.below L2 eU).t;clear hb1 hlow hblk hown c0 L1;go_region;go_wp2
            go_ret2
            exact⟨.inr ⟨by first|decide|exact hc,rfl⟩,below_drewN L2 1⟩
      · rw[List.length_drop] at hnl
        by_cases ht:kd=.turn
        · subst ht
          have hkt:=KT k hkd;subst hkt;have hWT:=WT;unfold MH at hWT;rw[show Kd.turn.n=1 from rfl] at hnl;have hnr:1<=r:=by omega
          have ZR:(1:Int)<=(r:Int):=by omega
          clear KA RA RT WA WT;go_wp2_with(go_at_call 239;refine(qG _).mono ?_;rintro e w1 ⟨rfl,hb1⟩;have L1:=hlow.trans (hb1.mono hlow.size);have B1:=hblk.below hb1 eU);have K2:=bN.new w1 #[aa 1,.func (.func 268) #[] #[]] 331;have L2:=L1.alloc L1.size (.cells #[aa 1,.func (.func 268) #[] #[]] 331);have B2:=B1.alloc (.cells #[aa 1,.func (.func 268) #[] #[]] 331);obtain⟨V,hV⟩:∃V,w1.alloc (.cells #[aa 1,.func (.func 268) #[] #[]] 331)=V:=⟨_,rfl⟩;have YF:w1.heap.size<V.heap.size:=by rw[<- hV];simp
          rw[hV] at K2 L2 B2⊢;clear hV L1 B1 hb1;have hlt:=K2.lt;have L3:=L2.alloc L2.size (.cells zA 129);have ZT:Below W.heap.size W V.drew:=below_drewN L2 1;have ZU:Below W.heap.size W (V.alloc (.cells zA 129)).drew:=below_drewN L3 1;have ZV:=B2.drew;have ZW:=(B2.alloc (.cells zA 129)).drew;have HZ:∀u,Below (V.alloc (.cells zA 129)).drew.heap.size (V.alloc (.cells zA 129)).drew u->bN u V.heap.size zA 129:=fun u h=>rP h;have k0:=K2.cell 0 _ rfl;have k1:=K2.cell 1 _ rfl;have k0d:V.drew.cell? ⟨w1.heap.size,0,none⟩=some (aa 1):=k0;have k1d:V.drew.cell? ⟨w1.heap.size,1,none⟩=some (.func (.func 268) #[] #[]):=k1;have k0e:(V.alloc (.cells zA 129)).drew.cell? ⟨w1.heap.size,0,none⟩=some (aa 1):=ah _ k0;have k1e:(V.alloc (.cells zA 129)).drew.cell? ⟨w1.heap.size,1,none⟩=some (.func (.func 268) #[] #[]):=ah _ k1;have nv:w1.heap.size≠V.heap.size:=by omega
          have nv':¬V.heap.size=w1.heap.size:=by omega
          have hle:j+1+1<=ws.length:=by omega
          go_cut [8,9] from 14 to 56 (fun p v wx=>v=.iface 390 (.pointer (some (eA aT aB aS c)))/\(∃R,p=aj R)/\Below V.heap.size V wx)
          case first=>
            go_region_held3 (fun w'=>w'.cell? ⟨w1.heap.size,0,none⟩=some (aa 1)/\w'.cell? ⟨w1.heap.size,1,none⟩=some (.func (.func 268) #[] #[])) (refine⟨?_,?_⟩<;>(repeat rw[World.cell?_setCell_far _ _ _ _ nv'])<;>assumption) ((go_at_call 268;refine(hWT _ (j+1) _ c ?_ ?_ hle hkr hc).mono ?_;(first|exact ZT|exact ZU);(first|exact ZV|exact ZW);rintro e w3 ⟨rfl,hb3⟩;dsimp only[Mv.zero,Fr.zero];have hz3:=hb3.size;have hs3:=Fw hb3 (by assumption);obtain⟨j0,j1⟩:=hs3;have y0:=fun o=>ah o j0;have y1:=fun o=>ah o j1;have y4:=ah (.cells zA 129) j0;have y5:=ah (.cells zA 129) j1;(first|(have BZ:=HZ _ hb3;obtain⟨mQ,A9,mV,Aa,mW,Ab,mX,Ac,rD,Fa,rE,Fb,rF,Fe,rG,Ff,rH,Fg,rJ,Fh,ic,oF,ig,oG⟩:=BZ.six)|skip)))
            · go_wp2_with fail
              go_meet
              exact⟨rfl,⟨_,rfl⟩,(qJ hb3).alloc hz3 _⟩
            · go_wp2_with fail
              go_meet
              have hb4:Below V.heap.size V w3:=((Below.refl V.heap.size V).alloc eU (.cells zA 129)).trans ((qJ hb3).mono (by simp));exact⟨rfl,⟨_,rfl⟩,aJ (R:=V.heap.size) eU zL 0 hb4⟩
          case rest=>
            obtain⟨rfl,⟨R',rfl⟩,xK⟩:=hcut;go_wp2_with fail
            go_ret2
            exact⟨.inr ⟨by first|decide|exact hc,rfl⟩,L2.trans (xK.mono L2.size)⟩
        · have ZQ:=KA k kd hkd ht
          have hWA:=WA kd ht;unfold J6 at ZQ;unfold MG at hWA;obtain⟨hn1,hn2⟩:=kd.n_pos;generalize kd.n=n at*;have hnr:n<=r:=by omega
          have ZR:(n:Int)<=(r:Int):=by omega
          have hn0:(0:Int)<=(n:Int):=by omega
          clear KA RA RT WA WT;go_wp2_with(go_at_call 239;refine(ZQ _).mono ?_;rintro e w1 ⟨⟨B,hB,rfl,hBc⟩,hb1⟩;have L1:=hlow.trans (hb1.mono hlow.size);have B1:=hblk.below hb1 eU);have K2:=bN.new w1 #[aa n,.func (.func 284) #[] #[aj B]] 331;have L2:=L1.alloc L1.size (.cells #[aa n,.func (.func 284) #[] #[aj B]] 331);have B2:=B1.alloc (.cells #[aa n,.func (.func 284) #[] #[aj B]] 331);obtain⟨V,hV⟩:∃V,w1.alloc (.cells #[aa n,.func (.func 284) #[] #[aj B]] 331)=V:=⟨_,rfl⟩;have YF:w1.heap.size<V.heap.size:=by rw[<- hV];simp
          rw[hV] at K2 L2 B2⊢;clear hV L1 B1 hb1;have hlt:=K2.lt;have L3:=L2.alloc L2.size (.cells zA 129);have ZT:Below W.heap.size W V.drew:=below_drewN L2 1;have ZU:Below W.heap.size W (V.alloc (.cells zA 129)).drew:=below_drewN L3 1;have ZV:=B2.drew;have ZW:=(B2.alloc (.cells zA 129)).drew;have HZ:∀u,Below (V.alloc (.cells zA 129)).drew.heap.size (V.alloc (.cells zA 129)).drew u->bN u V.heap.size zA 129:=fun u h=>rP h;have k0:=K2.cell 0 _ rfl;have k1:=K2.cell 1 _ rfl;have k0d:V.drew.cell? ⟨w1.heap.size,0,none⟩=some (aa n):=k0;have k1d:V.drew.cell? ⟨w1.heap.size,1,none⟩=some (.func (.func 284) #[] #[aj B]):=k1;have k0e:(V.alloc (.cells zA 129)).drew.cell? ⟨w1.heap.size,0,none⟩=some (aa n):=ah _ k0;have k1e:(V.alloc (.cells zA 129)).drew.cell? ⟨w1.heap.size,1,none⟩=some (.func (.func 284) #[] #[aj B]):=ah _ k1;have nv:w1.heap.size≠V.heap.size:=by omega
          have nv':¬V.heap.size=w1.heap.size:=by omega
          have hle:j+1+n<=ws.length:=by omega
          go_cut [8,9] from 14 to 56 (fun p v wx=>v=.iface 390 (.pointer (some (eA aT aB aS c)))/\(∃R,p=aj R)/\Below V.heap.size V wx)
          case first=>
            go_region_held3 (fun w'=>w'.cell? ⟨w1.heap.size,0,none⟩=some (aa n)/\w'.cell? ⟨w1.heap.size,1,none⟩=some (.func (.func 284) #[] #[aj B])) (refine⟨?_,?_⟩<;>(repeat rw[World.cell?_setCell_far _ _ _ _ nv'])<;>assumption) ((go_at_call 284;refine(hWA _ (j+1) B _ c ?_ ?_ hle hkr hc).mono ?_;(first|exact ZT|exact ZU);(first|exact ZV|exact ZW);rintro e w3 ⟨rfl,hb3⟩;dsimp only[Mv.zero,Fr.zero];have hz3:=hb3.size;have hs3:=Fw hb3 (by assumption);obtain⟨j0,j1⟩:=hs3;have y0:=fun o=>ah o j0;have y1:=fun o=>ah o j1;have y4:=ah (.cells zA 129) j0;have y5:=ah (.cells zA 129) j1;(first|(have BZ:=HZ _ hb3;obtain⟨mQ,A9,mV,Aa,mW,Ab,mX,Ac,rD,Fa,rE,Fb,rF,Fe,rG,Ff,rH,Fg,rJ,Fh,ic,oF,ig,oG⟩:=BZ.six)|skip)))
            · go_wp2_with fail
              go_meet
              exact⟨rfl,⟨_,rfl⟩,(qJ hb3).alloc hz3 _⟩
            · go_wp2_with fail
              go_meet
              have hb4:Below V.heap.size V w3:=((Below.refl V.heap.size V).alloc eU (.cells zA 129)).trans ((qJ hb3).mono (by simp));exact⟨rfl,⟨_,rfl⟩,aJ (R:=V.heap.size) eU zL 0 hb4⟩
          case rest=>
            obtain⟨rfl,⟨R',rfl⟩,xK⟩:=hcut;go_wp2_with fail
            go_ret2
            exact⟨.inr ⟨by first|decide|exact hc,rfl⟩,L2.trans (xK.mono L2.size)⟩
      · rw[List.length_drop] at hnl
        by_cases ht:kd=.turn
        · subst ht
          have hkt:=KT k hkd;subst hkt;have hRT:=RT;unfold UR at hRT;rw[show Kd.turn.n=1 from rfl] at hnl hRg;have hnr:1<=r:=by omega
          have ZR:(1:Int)<=(r:Int):=by omega
          clear KA RA RT WA WT;go_wp2_with(go_at_call 239;refine(qG _).mono ?_;rintro e w1 ⟨rfl,hb1⟩;have L1:=hlow.trans (hb1.mono hlow.size);have B1:=hblk.below hb1 eU;have O1:=ownsRow_below hown hb1);have K2:=bN.new w1 #[aa 1,.func (.func 268) #[] #[]] 331;have L2:=L1.alloc L1.size (.cells #[aa 1,.func (.func 268) #[] #[]] 331);have B2:=B1.alloc (.cells #[aa 1,.func (.func 268) #[] #[]] 331);have O2:=O1.alloc (.cells #[aa 1,.func (.func 268) #[] #[]] 331);have q1:=hb1.size;obtain⟨V,hV⟩:∃V,w1.alloc (.cells #[aa 1,.func (.func 268) #[] #[]] 331)=V:=⟨_,rfl⟩;have YF:w1.heap.size<V.heap.size:=by rw[<- hV];simp
          rw[hV] at K2 L2 B2 O2⊢;clear hV L1 B1 O1 hb1;have hlt:=K2.lt;have hOh:=UO hown;have hOl:=Fu hown;have L3:=L2.alloc L2.size (.cells zA 129);have ZT:Below W.heap.size W V.drew:=below_drewN L2 1;have ZU:Below W.heap.size W (V.alloc (.cells zA 129)).drew:=below_drewN L3 1;have ZV:=B2.drew;have ZW:=(B2.alloc (.cells zA 129)).drew;have HZ:∀u,Below (V.alloc (.cells zA 129)).drew.heap.size (V.alloc (.cells zA 129)).drew u->bN u V.heap.size zA 129:=fun u h=>rP h;have k0:=K2.cell 0 _ rfl;have k1:=K2.cell 1 _ rfl;have k0d:V.drew.cell? ⟨w1.heap.size,0,none⟩=some (aa 1):=k0;have k1d:V.drew.cell? ⟨w1.heap.size,1,none⟩=some (.func (.func 268) #[] #[]):=k1;have k0e:(V.alloc (.cells zA 129)).drew.cell? ⟨w1.heap.size,0,none⟩=some (aa 1):=ah _ k0;have k1e:(V.alloc (.cells zA 129)).drew.cell? ⟨w1.heap.size,1,none⟩=some (.func (.func 268) #[] #[]):=ah _ k1;have nv:w1.heap.size≠V.heap.size:=by omega
          have nv':¬V.heap.size=w1.heap.size:=by omega
          have hle:j+1+1<=ws.length:=by omega
          go_cut [8,9] from 14 to 56 (fun p v wx=>v=.nilIface/\∃R,p=aj R/\V.heap.size<=R/\(∀j u,(mL m)[j]? =some u->wx.cell? (ag R j)=some u)/\Below V.heap.size V wx)
          case first=>
            go_region_held3 (fun w'=>w'.cell? ⟨w1.heap.size,0,none⟩=some (aa 1)/\w'.cell? ⟨w1.heap.size,1,none⟩=some (.func (.func 268) #[] #[])) (refine⟨?_,?_⟩<;>(repeat rw[World.cell?_setCell_far _ _ _ _ nv'])<;>assumption) ((go_at_call 268;refine(hRT _ (j+1) _ m ?_ ?_ hle hkr).mono ?_;(first|exact ZT|exact ZU);(first|exact ZV|exact ZW);rintro e w3 ⟨rfl,hb3⟩;have hz3:=hb3.size;have hs3:=Fw hb3 (by assumption);obtain⟨j0,j1⟩:=hs3;have y0:=fun o=>ah o j0;have y1:=fun o=>ah o j1;have y2:=ah (.cells (mA m) 129) j0;have y3:=ah (.cells (mA m) 129) j1;have y4:=ah (.cells zA 129) j0;have y5:=ah (.cells zA 129) j1;(first|(have BZ:=HZ _ hb3;obtain⟨mQ,A9,mV,Aa,mW,Ab,mX,Ac,rD,Fa,rE,Fb,rF,Fe,rG,Ff,rH,Fg,rJ,Fh,ic,oF,ig,oG⟩:=BZ.six)|skip)))
            · go_wp2_with fail
              go_meet
              exact⟨rfl,w3.heap.size,rfl,hz3,Ov (cs:=(mL m)),(qJ hb3).alloc hz3 _⟩
            · go_wp2_with fail
              go_meet
              have hb4:Below V.heap.size V w3:=((Below.refl V.heap.size V).alloc eU (.cells zA 129)).trans ((qJ hb3).mono (by simp));have hat:=Fv (R:=V.heap.size) (mL m) 0 w3 (fun i hi=>IZ BZ i hi);simp only[Nat.zero_add] at hat;exact⟨rfl,V.heap.size,rfl,Nat.le_refl _,hat,aJ (R:=V.heap.size) eU (mL m) 0 hb4⟩
          case rest=>
            obtain⟨rfl,R',rfl,hR',hcells,xK⟩:=hcut;have KC:=K2.below xK eU;have kk:=KC.cell 0 _ rfl;have LC:=L2.trans (xK.mono L2.size);have BC:=B2.below xK eU;have OC:=((ownsRow_below O2 xK).alloc (.cells (mA m) 129));have OCd:(wc.alloc (.cells (mA m) 129)).drew.ownsRow (W.heap.size+1) 129 12 u4 acc.length (jV acc):=OC;obtain⟨m0,m1,m2,m3,m4,m5,m6,m7,m8,m9,m10,m11⟩:=And.intro (hcells 0 _ rfl) (And.intro (hcells 1 _ rfl) (And.intro (hcells 2 _ rfl) (And.intro (hcells 3 _ rfl) (And.intro (hcells 4 _ rfl) (And.intro (hcells 5 _ rfl) (And.intro (hcells 6 _ rfl) (And.intro (hcells 7 _ rfl) (And.intro (hcells 8 _ rfl) (And.intro (hcells 9 _ rfl) (And.intro (hcells 10 _ rfl) (hcells 11 _ rfl)))))))))));have szC:=xK.size;clear hcells k0 k1 k0d k1d k0e k1e HZ ZT ZU L3 ZV ZW OC;have H0:=World.alloc_heap_new wc (.cells (mA m) 129);go_wp2_with fail
            go_region_held3 (fun w'=>w'.cell? (ag R' 0)=some (aa m.a.n)/\w'.cell? (ag R' 1)=some (aa m.a.d)/\w'.cell? (ag R' 2)=some (aa m.b.n)/\w'.cell? (ag R' 3)=some (aa m.b.d)/\w'.cell? (ag R' 4)=some (aa m.c.n)/\w'.cell? (ag R' 5)=some (aa m.c.d)/\w'.cell? (ag R' 6)=some (aa m.d.n)/\w'.cell? (ag R' 7)=some (aa m.d.d)/\w'.cell? (ag R' 8)=some (aa m.e.n)/\w'.cell? (ag R' 9)=some (aa m.e.d)/\w'.cell? (ag R' 10)=some (aa m.f.n)/\w'.cell? (ag R' 11)=some (aa m.f.d)/\w'.cell? ⟨w1.heap.size,0,none⟩=some (aa 1)) (refine⟨?_,?_,?_,?_,?_,?_,?_,?_,?_,?_,?_,?_,?_⟩<;>first|assumption|exact ah _ (by assumption)|exact hA _ _ (by assumption) (by simp only;omega)) ((refine step_append_lies _ rfl (.tmp 49) (.tmp 51) 277 rfl (W.heap.size+1) 129 i0 (.agg zA) 12 96 underlying277 hi hz0 hz1 hz2 rfl (by decide) u4 acc.length (jV acc) rfl OCd ⟨wc.heap.size,0,none⟩ 1 1 (mL m) rfl rfl (World.news_of_block (w:=(wc.alloc (.cells (mA m) 129)).drew) (cs:=(mA m)) H0) a1v (by decide) (by unfold maxLen;omega) (by omega) (by have:=LC.size;simp;omega) _ rfl ?_;intro g cap w5 hown5 hgrow hat MI;have hgr:World.grownBy (wc.alloc (.cells (mA m) 129)).drew w5 u4.ownBlock:=hgrow;have hA:∀p v,wc.cell? p=some v->(p.block=W.heap.size\/w1.heap.size<=p.block)->w5.cell? p=some v:=(fun p v h hp=>(hgr.cell_far p (by have:=ay h;simp;omega) (fun e=>by have:=hOh _ e.symm;have:=hOl _ e.symm;have:=q1;omega)).trans (ah (W:=wc) _ h))))
            go_wp2_with fail;rw[List.drop_drop] at hRg;refine⟨⟨j+1+1,r-1,f',acc++[m],by omega,by simp;omega,⟨_,rfl,fun h=>by rw[if_neg (by omega)]⟩,by rw[List.length_append,xW];exact hown5,((BC.alloc (.cells (mA m) 129)).drew).grown hgr (fun e=>by have:=hOl _ e;omega),(below_drewN (LC.alloc LC.size (.cells (mA m) 129)) 1).grown hgr (by have:=LC.size;simp;omega) (fun k e=>by have:=hOl k e;omega),by omega,hRg⟩,by simp only[lenOf];omega⟩
        · have ZQ:=KA k kd hkd ht
          have hRA:=RA kd ht;unfold J6 at ZQ;unfold UQ at hRA;obtain⟨hn1,hn2⟩:=kd.n_pos;generalize kd.n=n at*;have hnr:n<=r:=by omega
          have ZR:(n:Int)<=(r:Int):=by omega
          have hn0:(0:Int)<=(n:Int):=by omega
          clear KA RA RT WA WT;go_wp2_with(go_at_call 239;refine(ZQ _).mono ?_;rintro e w1 ⟨⟨B,hB,rfl,hBc⟩,hb1⟩;have L1:=hlow.trans (hb1.mono hlow.size);have B1:=hblk.below hb1 eU;have O1:=ownsRow_below hown hb1);have C2:=ah (.cells #[aa n,.func (.func 284) #[] #[aj B]] 331) hBc;have K2:=bN.new w1 #[aa n,.func (.func 284) #[] #[aj B]] 331;have L2:=L1.alloc L1.size (.cells #[aa n,.func (.func 284) #[] #[aj B]] 331);have B2:=B1.alloc (.cells #[aa n,.func (.func 284) #[] #[aj B]] 331);have O2:=O1.alloc (.cells #[aa n,.func (.func 284) #[] #[aj B]] 331);have q1:=hb1.size;obtain⟨V,hV⟩:∃V,w1.alloc (.cells #[aa n,.func (.func 284) #[] #[aj B]] 331)=V:=⟨_,rfl⟩;have YF:w1.heap.size<V.heap.size:=by rw[<- hV];simp
          rw[hV] at K2 L2 B2 O2 C2⊢;clear hV L1 B1 O1 hb1 hBc;have hlt:=K2.lt;have hOh:=UO hown;have hOl:=Fu hown;have L3:=L2.alloc L2.size (.cells zA 129);have ZT:Below W.heap.size W V.drew:=below_drewN L2 1;have ZU:Below W.heap.size W (V.alloc (.cells zA 129)).drew:=below_drewN L3 1;have ZV:=B2.drew;have ZW:=(B2.alloc (.cells zA 129)).drew;have C2d:V.drew.cell? (ag B 0)=some (.func (.func kd.f) #[] #[]):=C2;have C3d:(V.alloc (.cells zA 129)).drew.cell? (ag B 0)=some (.func (.func kd.f) #[] #[]):=ah _ C2;have HZ:∀u,Below (V.alloc (.cells zA 129)).drew.heap.size (V.alloc (.cells zA 129)).drew u->bN u V.heap.size zA 129:=fun u h=>rP h;have k0:=K2.cell 0 _ rfl;have k1:=K2.cell 1 _ rfl;have k0d:V.drew.cell? ⟨w1.heap.size,0,none⟩=some (aa n):=k0;have k1d:V.drew.cell? ⟨w1.heap.size,1,none⟩=some (.func (.func 284) #[] #[aj B]):=k1;have k0e:(V.alloc (.cells zA 129)).drew.cell? ⟨w1.heap.size,0,none⟩=some (aa n):=ah _ k0;have k1e:(V.alloc (.cells zA 129)).drew.cell? ⟨w1.heap.size,1,none⟩=some (.func (.func 284) #[] #[aj B]):=ah _ k1;have nv:w1.heap.size≠V.heap.size:=by omega
          have nv':¬V.heap.size=w1.heap.size:=by omega
          have hle:j+1+n<=ws.length:=by omega
          go_cut [8,9] from 14 to 56 (fun p v wx=>v=.nilIface/\∃R,p=aj R/\V.heap.size<=R/\(∀j u,(mL m)[j]? =some u->wx.cell? (ag R j)=some u)/\Below V.heap.size V wx)
          case first=>
            go_region_held3 (fun w'=>w'.cell? ⟨w1.heap.size,0,none⟩=some (aa n)/\w'.cell? ⟨w1.heap.size,1,none⟩=some (.func (.func 284) #[] #[aj B])) (refine⟨?_,?_⟩<;>(repeat rw[World.cell?_setCell_far _ _ _ _ nv'])<;>assumption) ((go_at_call 284;refine(hRA _ (j+1) B _ m ?_ ?_ ?_ hle hkr).mono ?_;(first|exact ZT|exact ZU);(first|exact ZV|exact ZW);(first|exact C2d|exact C3d);rintro e w3 ⟨rfl,hb3⟩;have hz3:=hb3.size;have hs3:=Fw hb3 (by assumption);obtain⟨j0,j1⟩:=hs3;have y0:=fun o=>ah o j0;have y1:=fun o=>ah o j1;have y2:=ah (.cells (mA m) 129) j0;have y3:=ah (.cells (mA m) 129) j1;have y4:=ah (.cells zA 129) j0;have y5:=ah (.cells zA 129) j1;(first|(have BZ:=HZ _ hb3;obtain⟨mQ,A9,mV,Aa,mW,Ab,mX,Ac,rD,Fa,rE,Fb,rF,Fe,rG,Ff,rH,Fg,rJ,Fh,ic,oF,ig,oG⟩:=BZ.six)|skip)))
            · go_wp2_with fail
              go_meet
              exact⟨rfl,w3.heap.size,rfl,hz3,Ov (cs:=(mL m)),(qJ hb3).alloc hz3 _⟩
            · go_wp2_with fail
              go_meet
              have hb4:Below V.heap.size V w3:=((Below.refl V.heap.size V).alloc eU (.cells zA 129)).trans ((qJ hb3).mono (by simp));have hat:=Fv (R:=V.heap.size) (mL m) 0 w3 (fun i hi=>IZ BZ i hi);simp only[Nat.zero_add] at hat;exact⟨rfl,V.heap.size,rfl,Nat.le_refl _,hat,aJ (R:=V.heap.size) eU (mL m) 0 hb4⟩
          case rest=>
            obtain⟨rfl,R',rfl,hR',hcells,xK⟩:=hcut;have KC:=K2.below xK eU;have kk:=KC.cell 0 _ rfl;have LC:=L2.trans (xK.mono L2.size);have BC:=B2.below xK eU;have OC:=((ownsRow_below O2 xK).alloc (.cells (mA m) 129));have OCd:(wc.alloc (.cells (mA m) 129)).drew.ownsRow (W.heap.size+1) 129 12 u4 acc.length (jV acc):=OC;obtain⟨m0,m1,m2,m3,m4,m5,m6,m7,m8,m9,m10,m11⟩:=And.intro (hcells 0 _ rfl) (And.intro (hcells 1 _ rfl) (And.intro (hcells 2 _ rfl) (And.intro (hcells 3 _ rfl) (And.intro (hcells 4 _ rfl) (And.intro (hcells 5 _ rfl) (And.intro (hcells 6 _ rfl) (And.intro (hcells 7 _ rfl) (And.intro (hcells 8 _ rfl) (And.intro (hcells 9 _ rfl) (And.intro (hcells 10 _ rfl) (hcells 11 _ rfl)))))))))));have szC:=xK.size;clear hcells k0 k1 k0d k1d k0e k1e HZ ZT ZU L3 ZV ZW OC;have H0:=World.alloc_heap_new wc (.cells (mA m) 129);go_wp2_with fail
            go_region_held3 (fun w'=>w'.cell? (ag R' 0)=some (aa m.a.n)/\w'.cell? (ag R' 1)=some (aa m.a.d)/\w'.cell? (ag R' 2)=some (aa m.b.n)/\w'.cell? (ag R' 3)=some (aa m.b.d)/\w'.cell? (ag R' 4)=some (aa m.c.n)/\w'.cell? (ag R' 5)=some (aa m.c.d)/\w'.cell? (ag R' 6)=some (aa m.d.n)/\w'.cell? (ag R' 7)=some (aa m.d.d)/\w'.cell? (ag R' 8)=some (aa m.e.n)/\w'.cell? (ag R' 9)=some (aa m.e.d)/\w'.cell? (ag R' 10)=some (aa m.f.n)/\w'.cell? (ag R' 11)=some (aa m.f.d)/\w'.cell? ⟨w1.heap.size,0,none⟩=some (aa n)) (refine⟨?_,?_,?_,?_,?_,?_,?_,?_,?_,?_,?_,?_,?_⟩<;>first|assumption|exact ah _ (by assumption)|exact hA _ _ (by assumption) (by simp only;omega)) ((refine step_append_lies _ rfl (.tmp 49) (.tmp 51) 277 rfl (W.heap.size+1) 129 i0 (.agg zA) 12 96 underlying277 hi hz0 hz1 hz2 rfl (by decide) u4 acc.length (jV acc) rfl OCd ⟨wc.heap.size,0,none⟩ 1 1 (mL m) rfl rfl (World.news_of_block (w:=(wc.alloc (.cells (mA m) 129)).drew) (cs:=(mA m)) H0) a1v (by decide) (by unfold maxLen;omega) (by omega) (by have:=LC.size;simp;omega) _ rfl ?_;intro g cap w5 hown5 hgrow hat MI;have hgr:World.grownBy (wc.alloc (.cells (mA m) 129)).drew w5 u4.ownBlock:=hgrow;have hA:∀p v,wc.cell? p=some v->(p.block=W.heap.size\/w1.heap.size<=p.block)->w5.cell? p=some v:=(fun p v h hp=>(hgr.cell_far p (by have:=ay h;simp;omega) (fun e=>by have:=hOh _ e.symm;have:=hOl _ e.symm;have:=q1;omega)).trans (ah (W:=wc) _ h))))
            go_wp2_with fail;rw[List.drop_drop] at hRg;refine⟨⟨j+1+n,r-n,f',acc++[m],by omega,by simp;omega,⟨_,rfl,fun h=>by rw[if_neg (by omega)]⟩,by rw[List.length_append,xW];exact hown5,((BC.alloc (.cells (mA m) 129)).drew).grown hgr (fun e=>by have:=hOl _ e;omega),(below_drewN (LC.alloc LC.size (.cells (mA m) 129)) 1).grown hgr (by have:=LC.size;simp;omega) (fun k e=>by have:=hOl k e;omega),by omega,hRg⟩,by simp only[lenOf];omega⟩
end
end Go.Proofs.YtjfiehbcamfdfaaGreatDoor

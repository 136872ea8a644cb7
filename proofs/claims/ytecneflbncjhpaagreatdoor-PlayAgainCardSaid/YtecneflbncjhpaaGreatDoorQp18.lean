/- Parts of the proof. -/
import Derived.Test.YtecneflbncjhpaaGreatDoorQp17
namespace Go.Proofs.YtecneflbncjhpaaGreatDoor
open Go.Proofs.Tryz
set_option maxHeartbeats 32000000
section
open Go.RowKit
theorem a9G (b o cap B:Nat)(s1:aC)(x1:Fr)(r:Mv)(W:ag)(hB:W.cell? (ak B 0)=some (.func (.func 281) #[] #[]))(h1:W.cell? (ak b o)=some (.string s1))
  (R1:∀V,Below W.heap.size W V->au 236 #[.string s1] V fun e w'=>e=.returned (.tuple #[.agg #[aa x1.n,aa x1.d],.nilIface])/\Below V.heap.size V w')
  (HOW:∀V g c,Below W.heap.size W V->V.cell? (ak g 0)=some (aa x1.n)->V.cell? (ak g 1)=some (aa x1.d)->au 281 #[.slice (some ⟨g,0,none⟩) 1 c] V fun e w'=>e=.returned (mv r)/\Below V.heap.size V w'):
  au 300 #[.slice (some ⟨b,o,none⟩) 1 cap,ay B] W fun e w'=>e=.returned (.tuple #[mv r,.nilIface])/\Below W.heap.size W w':=by
 have L0:=(aG W.heap.size W).alloc ai (.cells zA 125);have B0:=dY.new W zA 125;have g1:=fun o=>ax o h1;obtain⟨i0,hi,hz0,hz1,hz2⟩:=info_parts BH;go_enter func300,ntmps300;go_wp2;refine wp_loop_rounds 2 ?_;rw[rounds_succ];go_wp2_with(first|(at_builtin;refine wpList_append_own_at _ rfl _ _ 328 rfl (W.heap.size+1) 123 i0 (.agg #[aa 0,aa 0]) 2 16 underlying328 hi hz0 hz1 hz2 rfl (by decide) (.slice none 0 0) 0 [] rfl O1 ⟨w1.heap.size+1,0,none⟩ 1 1 [aa x1.n,aa x1.d] rfl rfl (H9 (by simp)) a1l (by unfold maxLen;omega) (by omega) (by simp;omega) ?_;intro v1 V1 hown1 hgrow1 _ a3O;have L2:=((L1.alloc (by omega) _).alloc (by simp;omega) _).grown hgrow1 (by simp;omega) (fun k e=>by simp[Value.ownBlock] at e);have B2:=((B1.alloc _).alloc _).grown hgrow1 (by simp[Value.ownBlock]);have z1:=hgrow1.size;simp only[dB] at z1;obtain⟨g,c2,rfl,hg1,hg2,hg3,hg4,hg5⟩:=rq hown1;have gB:=(L2.cell (p:=⟨B,0,none⟩) (aF hB)).trans hB)|(go_at_call_of 236 s1;refine(R1 _ L0).mono ?_;rintro e w1 ⟨rfl,hb1⟩;have Ng:=hb1.size;simp only[dB] at Ng;have L1:=(L0.trans (hb1.mono (by simp)));have B1:=B0.below hb1 ai;have O1:((w1.alloc (.cells #[aa x1.n,aa x1.d] 123)).alloc (.cells #[aa x1.n,aa x1.d] 123)).ownsRow (W.heap.size+1) 123 2 (.slice none 0 0) 0 []:=eH _ _ _ _));rw[rounds_succ];go_wp2_with((go_at_call 281;refine(HOW _ g c2 L2 (hg5 0 _ rfl) (hg5 1 _ rfl)).mono ?_;rintro e w5 ⟨rfl,hb5⟩;have sz5:=hb5.size;have B5:=B2.below hb5 ai;obtain⟨qC,Fy,qD,Fz,qE,FE,qF,FH,vJ,JR,vL,JS,vM,JU,vN,JV,vO,JW,vP,JX,jD,qW,jE,qX⟩:=B5.six));refine bodyPost_ret (v:=.tuple #[mv r,.nilIface]) (by simp[results,results300,go_sem,qC,qD,qE,qF,vJ,vL,vM,vN,vO,vP,jD,jE]) rfl ⟨rfl,?_⟩;exact aW (R:=W.heap.size) ai (mL r) 0 (L2.trans (hb5.mono (by omega)))
theorem XW {k:aC}{kd:Kd}(h:qG k=some kd)(ht:kd≠.turn):L9 k kd:=by
 unfold qG at h;by_cases h1:k=FI
 ·rw[if_pos h1] at h;cases h;subst h1;exact Ka
 ·rw[if_neg h1] at h;by_cases h2:k=xQ
  ·rw[if_pos h2] at h;cases h;subst h2;exact GY
  ·rw[if_neg h2] at h;by_cases h3:k=zb
   ·rw[if_pos h3] at h;cases h;exact(ht rfl).elim
   ·rw[if_neg h3] at h;by_cases h4:k=FJ
    ·rw[if_pos h4] at h;cases h;subst h4;exact Kb
    ·rw[if_neg h4] at h;cases h
theorem XX {k:aC}(h:qG k=some .turn):k=zb:=by
 unfold qG at h;by_cases h1:k=FI
 ·rw[if_pos h1] at h;cases h
 ·rw[if_neg h1] at h;by_cases h2:k=xQ
  ·rw[if_pos h2] at h;cases h
  ·rw[if_neg h2] at h;by_cases h3:k=zb
   ·exact h3
   ·rw[if_neg h3] at h;by_cases h4:k=FJ
    ·rw[if_pos h4] at h;cases h
    ·rw[if_neg h4] at h;cases h
theorem Lv {mk:Fr->Fr->Mv}{a b:aC}{m:Mv}(h:mQ mk a b=(m,0)):zh a=0/\zh b=0/\m=mk (FM a) (FM b):=by
 unfold mQ at h;by_cases h1:zh a=0
 ·rw[if_neg (by simp[h1])] at h;by_cases h2:zh b=0
  ·rw[if_neg (by simp[h2])] at h;exact⟨h1,h2,(congrArg Prod.fst h).symm⟩
  ·rw[if_pos h2] at h;exact(h2 (congrArg Prod.snd h)).elim
 ·rw[if_pos h1] at h;exact(h1 (congrArg Prod.snd h)).elim
theorem XY {mk:Fr->Mv}{a:aC}{m:Mv}(h:xu mk a=(m,0)):zh a=0/\m=mk (FM a):=by
 unfold xu at h;by_cases h1:zh a=0
 ·rw[if_neg (by simp[h1])] at h;exact⟨h1,(congrArg Prod.fst h).symm⟩
 ·rw[if_pos h1] at h;exact(h1 (congrArg Prod.snd h)).elim
theorem wR {ws:List aC}{o:Nat}(h:o+2<=ws.length):∃a b r,ws.drop o=a::b::r/\ws[o]? =some a/\ws[o+1]? =some b:=by
 have h1:o<ws.length:=by omega
 have h2:o+1<ws.length:=by omega
 exact⟨ws[o],ws[o+1],ws.drop (o+2),by rw[List.drop_eq_getElem_cons h1,List.drop_eq_getElem_cons h2],by simp[h1],by simp[h2]⟩
theorem drop_one {ws:List aC}{o:Nat}(h:o+1<=ws.length):∃a r,ws.drop o=a::r/\ws[o]? =some a:=by
 have h1:o<ws.length:=by omega
 exact⟨ws[o],ws.drop (o+1),by rw[List.drop_eq_getElem_cons h1],by simp[h1]⟩
theorem sO {aT aB aS:Addr}{a:aC}(hs:a.size<=1000000)(hr:zh a=0)(V:ag)(h:E4 aT aB aS V):
  au 236 #[.string a] V fun e w'=>e=.returned (.tuple #[.agg #[aa (FM a).n,aa (FM a).d],.nilIface])/\Below V.heap.size V w':=by
 have:=sD aT aB aS aB a V h.e3 h.t (by omega);rw[show(rd a.data.toList).c=0 from hr] at this;exact this
theorem kH {ws:List aC}(hs:∀a∈ws,a.size<=1000000){o:Nat}{a:aC}(h:ws[o]? =some a):a.size<=1000000:=hs a (fV h)
theorem XZ {aT aB aS:Addr}{W:ag}(h:E4 aT aB aS W){ws:List aC}(hs:∀a∈ws,a.size<=1000000){kd:Kd}(ht:kd≠.turn):Xr W ws kd:=by
 intro V o B cap m hV hB hf ho hk;have hE:=h.below hV ai;cases kd with
 |turn=>exact(ht rfl).elim
 |move=>
  obtain⟨a,b,r,hd,ha,hb⟩:=wR ho;rw[hd] at hk;obtain⟨h1,h2,rfl⟩:=Lv hk;exact a99 _ (qR _ _ func278 (by kernel_rfl) (by kernel_rfl)) W.heap.size o cap B a b (FM a) (FM b) _ V hf (gQ hB ha) (gQ hB hb) (fun U hU=>sO (kH hs ha) h1 U (hE.below hU ai)) (fun U hU=>sO (kH hs hb) h2 U (hE.below hU ai))
   (fun U g c hU k0 k1 k2 k3=>TC g c (FM a) (FM b) U k0 k1 k2 k3)
 |scale=>
  obtain⟨a,b,r,hd,ha,hb⟩:=wR ho;rw[hd] at hk;obtain⟨h1,h2,rfl⟩:=Lv hk;exact a99 _ (qR _ _ func279 (by kernel_rfl) (by kernel_rfl)) W.heap.size o cap B a b (FM a) (FM b) _ V hf (gQ hB ha) (gQ hB hb) (fun U hU=>sO (kH hs ha) h1 U (hE.below hU ai)) (fun U hU=>sO (kH hs hb) h2 U (hE.below hU ai))
   (fun U g c hU k0 k1 k2 k3=>TE g c (FM a) (FM b) U k0 k1 k2 k3)
 |skew=>
  obtain⟨a,r,hd,ha⟩:=drop_one ho;rw[hd] at hk;obtain⟨h1,rfl⟩:=XY hk;exact a9G W.heap.size o cap B a (FM a) _ V hf (gQ hB ha) (fun U hU=>sO (kH hs ha) h1 U (hE.below hU ai))
   (fun U g c hU k0 k1=>Xp g c (FM a) U k0 k1)
theorem Y3 {W:ag}{ws:List aC}:Xt W ws:=by
 intro V o cap m hV hB ho hk;obtain⟨a,r,hd,ha⟩:=drop_one ho;rw[hd] at hk;have hc:=gQ hB ha;change BK a=(m,0) at hk;unfold BK at hk;by_cases h0:a=⟨#[48]⟩
 ·rw[if_pos h0] at hk;cases hk;subst h0;exact wJ W.heap.size o cap V _ _ _ (.inl ⟨rfl,rfl,rfl⟩) hc
 ·rw[if_neg h0] at hk;by_cases h1:a=⟨#[49]⟩
  ·rw[if_pos h1] at hk;cases hk;subst h1;exact wJ W.heap.size o cap V _ _ _ (.inr (.inl ⟨rfl,rfl,rfl⟩)) hc
  ·rw[if_neg h1] at hk;by_cases h2:a=⟨#[50]⟩
   ·rw[if_pos h2] at hk;cases hk;subst h2;exact wJ W.heap.size o cap V _ _ _ (.inr (.inr (.inl ⟨rfl,rfl,rfl⟩))) hc
   ·rw[if_neg h2] at hk;by_cases h3:a=⟨#[51]⟩
    ·rw[if_pos h3] at hk;cases hk;subst h3;exact wJ W.heap.size o cap V _ _ _ (.inr (.inr (.inr ⟨rfl,rfl,rfl⟩))) hc
    ·rw[if_neg h3] at hk;cases hk
theorem Cs:∀(R:List Mv) (j:Nat) (m:Mv),R[j]? =some m->∀i u,(vg m)[i]? =some u->(kV R)[j*12+i]? =some u
 |[],_,_,h,_,_,_=>by cases h
 |x::R,0,m,h,i,u,hu=>by
  simp at h;subst h;have hi:i<(vg x).length:=(jc.1 hu).1;show(vg x++kV R)[0*12+i]? =some u;rw[List.getElem?_append_left (by simpa using hi)];simpa using hu
 |x::R,j+1,m,h,i,u,hu=>by
  have:=Cs R j m (by simpa using h) i u hu;show(vg x++kV R)[(j+1)*12+i]? =some u;rw[iK (by simp;omega)];rw[show(j+1)*12+i-(vg x).length=j*12+i by simp;omega];exact this
theorem a1G (g o c:Nat)(a:aC)(aT:Addr)(W:ag)(k0:W.cell? (ak g o)=some (.string a))(hT:W.cell? (ak 1 0)=some (.iface 401 (.pointer (some aT))))
  (h0:a≠⟨#[48]⟩) (h1:a≠⟨#[49]⟩) (h2:a≠⟨#[50]⟩) (h3:a≠⟨#[51]⟩):
  au 280 #[.slice (some ⟨g,o,none⟩) 1 c] W fun e w'=>e=.returned (.tuple #[mv .zero,.iface 401 (.pointer (some aT))])/\Below W.heap.size W w':=by
 have e0:=ry (l:=[48]) h0;have e1:=ry (l:=[49]) h1;have e2:=ry (l:=[50]) h2;have e3:=ry (l:=[51]) h3;have k1:=fun o=>ax o k0;clear h0 h1 h2 h3;go_enter func280,ntmps280;go_wp2;have hF:∃U,W.alloc (.cells zA 125)=U/\dY U W.heap.size zA 125/\Below W.heap.size W U:=⟨_,rfl,dY.new W _ _,(aG _ W).alloc ai _⟩;obtain⟨U,hU,B0,L0⟩:=hF;rw[hU];clear hU k1 k0 e0 e1 e2 e3;have cT:=(L0.cell (p:=⟨1,0,none⟩) (aF hT)).trans hT;have lT:=aF hT;simp only at lT;obtain⟨qC,Fy,qD,Fz,qE,FE,qF,FH,vJ,JR,vL,JS,vM,JU,vN,JV,vO,JW,vP,JX,jD,qW,jE,qX⟩:=B0.six;go_region;go_wp2;refine bodyPost_ret (v:=.tuple #[mv .zero,.iface 401 (.pointer (some aT))]) (by simp[results,results280,go_sem,Mv.zero,Fr.zero,qC,qD,qE,qF,vJ,vL,vM,vN,vO,vP,jD,jE]) rfl ⟨rfl,?_⟩;exact below_drewN (aW (R:=W.heap.size) ai zL 0 L0) 1
theorem QZ (b o cap B n:Nat)(s1:aC)(a:Addr)(W:ag)(hn:1<=n)(h1:W.cell? (ak b o)=some (.string s1))
  (R1:∀V,Below W.heap.size W V->au 236 #[.string s1] V fun e w'=>e=.returned (.tuple #[.agg #[aa 0,aa 0],.iface 401 (.pointer (some a))])/\Below V.heap.size V w'):
  au 300 #[.slice (some ⟨b,o,none⟩) n cap,ay B] W fun e w'=>e=.returned (.tuple #[mv .zero,.iface 401 (.pointer (some a))])/\Below W.heap.size W w':=by
 have L0:=(aG W.heap.size W).alloc ai (.cells zA 125);have B0:=dY.new W zA 125;have g1:=fun o=>ax o h1;go_enter func300,ntmps300;go_wp2;refine wp_loop_rounds 1 ?_;rw[rounds_succ];go_wp2_with((go_at_call_of 236 s1;refine(R1 _ L0).mono ?_;rintro e w1 ⟨rfl,hb1⟩;have Ng:=hb1.size;simp only[dB] at Ng;have L1:=(L0.trans (hb1.mono (by simp)));have B1:=B0.below hb1 ai;obtain⟨qC,Fy,qD,Fz,qE,FE,qF,FH,vJ,JR,vL,JS,vM,JU,vN,JV,vO,JW,vP,JX,jD,qW,jE,qX⟩:=B1.WZ));refine bodyPost_ret (v:=.tuple #[mv .zero,.iface 401 (.pointer (some a))]) (by simp[results,results300,go_sem,Mv.zero,Fr.zero,qC,qD,qE,qF,vJ,vL,vM,vN,vO,vP,jD,jE]) rfl ⟨rfl,?_⟩;exact aW (R:=W.heap.size) ai zL 0 (L1.alloc L1.size _)
theorem a1H (b o cap B:Nat)(s1 s2:aC)(x1:Fr)(a:Addr)(W:ag)(h1:W.cell? (ak b o)=some (.string s1))(h2:W.cell? (ak b (o+1))=some (.string s2))
  (R1:∀V,Below W.heap.size W V->au 236 #[.string s1] V fun e w'=>e=.returned (.tuple #[.agg #[aa x1.n,aa x1.d],.nilIface])/\Below V.heap.size V w')
  (R2:∀V,Below W.heap.size W V->au 236 #[.string s2] V fun e w'=>e=.returned (.tuple #[.agg #[aa 0,aa 0],.iface 401 (.pointer (some a))])/\Below V.heap.size V w'):
  au 300 #[.slice (some ⟨b,o,none⟩) 2 cap,ay B] W fun e w'=>e=.returned (.tuple #[mv .zero,.iface 401 (.pointer (some a))])/\Below W.heap.size W w':=by
 have L0:=(aG W.heap.size W).alloc ai (.cells zA 125);have B0:=dY.new W zA 125;have g1:=fun o=>ax o h1;obtain⟨i0,hi,hz0,hz1,hz2⟩:=info_parts BH;go_enter func300,ntmps300;go_wp2;refine wp_loop_rounds 2 ?_;rw[rounds_succ];go_wp2_with(first|(at_builtin;refine wpList_append_own_at _ rfl _ _ 328 rfl (W.heap.size+1) 123 i0 (.agg #[aa 0,aa 0]) 2 16 underlying328 hi hz0 hz1 hz2 rfl (by decide) (.slice none 0 0) 0 [] rfl O1 ⟨w1.heap.size+1,0,none⟩ 1 1 [aa x1.n,aa x1.d] rfl rfl (H9 (by simp)) a1l (by unfold maxLen;omega) (by omega) (by simp;omega) ?_;intro v1 V1 hown1 hgrow1 _ a3O;have L2:=((L1.alloc (by omega) _).alloc (by simp;omega) _).grown hgrow1 (by simp;omega) (fun k e=>by simp[Value.ownBlock] at e);have B2:=((B1.alloc _).alloc _).grown hgrow1 (by simp[Value.ownBlock]);have z1:=hgrow1.size;simp only[dB] at z1;have g2:=(L2.cell (p:=⟨b,o+1,none⟩) (aF h2)).trans h2)|(go_at_call_of 236 s1;refine(R1 _ L0).mono ?_;rintro e w1 ⟨rfl,hb1⟩;have Ng:=hb1.size;simp only[dB] at Ng;have L1:=(L0.trans (hb1.mono (by simp)));have B1:=B0.below hb1 ai;have O1:((w1.alloc (.cells #[aa x1.n,aa x1.d] 123)).alloc (.cells #[aa x1.n,aa x1.d] 123)).ownsRow (W.heap.size+1) 123 2 (.slice none 0 0) 0 []:=eH _ _ _ _));rw[rounds_succ];go_wp2_with((go_at_call_of 236 s2;refine(R2 _ L2).mono ?_;rintro e w2 ⟨rfl,hb2⟩;have Wp:=hb2.size;have L3:=L2.trans (hb2.mono (by omega));have B3:=B2.below hb2 ai;obtain⟨qC,Fy,qD,Fz,qE,FE,qF,FH,vJ,JR,vL,JS,vM,JU,vN,JV,vO,JW,vP,JX,jD,qW,jE,qX⟩:=B3.WZ));refine bodyPost_ret (v:=.tuple #[mv .zero,.iface 401 (.pointer (some a))]) (by simp[results,results300,go_sem,Mv.zero,Fr.zero,qC,qD,qE,qF,vJ,vL,vM,vN,vO,vP,jD,jE]) rfl ⟨rfl,?_⟩;exact aW (R:=W.heap.size) ai zL 0 (L3.alloc L3.size _)
def eA (aT aB aS:Addr)(c:Nat):Addr:=if c=1 then aT else if c=2 then aB else aS
theorem a5I {aT aB aS:Addr}{c:Nat}(h:c=1\/c=2\/c=3):Nf aT aB aS aB c=.iface 401 (.pointer (some (eA aT aB aS c))):=by
 rcases h with rfl|rfl|rfl<;>rfl
theorem Ct (l:List UInt8):(rd l).c=0\/((rd l).c=1\/(rd l).c=2\/(rd l).c=3)/\(rd l).n=0/\(rd l).d=0:=by
 have hck:∀n d,(ck n d).c=0\/((ck n d).c=1\/(ck n d).c=2\/(ck n d).c=3)/\(ck n d).n=0/\(ck n d).d=0:=fun n d=>by
  unfold ck;split
  ·exact .inl rfl
  ·rename_i h;have:=fC n d;exact .inr ⟨by simp only;omega,rfl,rfl⟩
 unfold rd;split
 ·exact .inr ⟨.inl rfl,rfl,rfl⟩
 ·split
  ·exact hck _ _
  ·split
   ·exact hck _ _
   ·exact .inr ⟨.inl rfl,rfl,rfl⟩
theorem Ia {aT aB aS:Addr}{a:aC}(hs:a.size<=1000000)(hr:zh a≠0)(V:ag)(h:E4 aT aB aS V):
  au 236 #[.string a] V fun e w'=>e=.returned (.tuple #[.agg #[aa 0,aa 0],.iface 401 (.pointer (some (eA aT aB aS (zh a))))])/\Below V.heap.size V w':=by
 have:=sD aT aB aS aB a V h.e3 h.t (by omega);rcases Ct a.data.toList with h0|⟨h1,h2,h3⟩
 ·exact(hr h0).elim
 ·rw[h2,h3,a5I h1] at this;exact this
def Ow (aT aB aS:Addr)(W:ag)(ws:List aC)(kd:Kd):Prop:=∀V o B cap c,Below W.heap.size W V->dY V W.heap.size (ws.map Value.string).toArray 9->o+kd.n<=ws.length->(FP kd (ws.drop o)).2=c->c≠0->
 au 300 #[.slice (some ⟨W.heap.size,o,none⟩) kd.n cap,ay B] V fun e w'=>e=.returned (.tuple #[mv .zero,.iface 401 (.pointer (some (eA aT aB aS c)))])/\Below V.heap.size V w'
def Ox (aT aB aS:Addr)(W:ag)(ws:List aC):Prop:=∀V o cap c,Below W.heap.size W V->dY V W.heap.size (ws.map Value.string).toArray 9->o+1<=ws.length->(FP .turn (ws.drop o)).2=c->c≠0->
 au 280 #[.slice (some ⟨W.heap.size,o,none⟩) 1 cap] V fun e w'=>e=.returned (.tuple #[mv .zero,.iface 401 (.pointer (some (eA aT aB aS c)))])/\Below V.heap.size V w'
theorem Y4 {aT aB aS:Addr}{V:ag}(hE:E4 aT aB aS V){mk:Fr->Fr->Mv}{a b:aC}{w0 o B cap c:Nat}(ha:a.size<=1000000)(hb:b.size<=1000000)(k1:V.cell? (ak w0 o)=some (.string a))(k2:V.cell? (ak w0 (o+1))=some (.string b))(h:(mQ mk a b).2=c)(hc:c≠0):
  au 300 #[.slice (some ⟨w0,o,none⟩) 2 cap,ay B] V fun e w'=>e=.returned (.tuple #[mv .zero,.iface 401 (.pointer (some (eA aT aB aS c)))])/\Below V.heap.size V w':=by
 unfold mQ at h;by_cases h1:zh a=0
 ·rw[if_neg (by simp[h1])] at h;by_cases h2:zh b=0
  ·rw[if_neg (by simp[h2])] at h;exact(hc h.symm).elim
  ·rw[if_pos h2] at h;subst h;exact a1H w0 o cap B a b (FM a) _ V k1 k2 (fun U hU=>sO ha h1 U (hE.below hU ai)) (fun U hU=>Ia hb h2 U (hE.below hU ai))
 ·rw[if_pos h1] at h;subst h;exact QZ w0 o cap B 2 a _ V (by decide) k1 (fun U hU=>Ia ha h1 U (hE.below hU ai))
theorem Uc {aT aB aS:Addr}{W:ag}(h:E4 aT aB aS W){ws:List aC}(hs:∀a∈ws,a.size<=1000000){kd:Kd}(ht:kd≠.turn):Ow aT aB aS W ws kd:=by
 intro V o B cap c hV hB ho hk hc;have hE:=h.below hV ai;cases kd with
 |turn=>exact(ht rfl).elim
 |move=>
  obtain⟨a,b,r,hd,ha,hb⟩:=wR ho;rw[hd] at hk;exact Y4 hE (kH hs ha) (kH hs hb) (gQ hB ha) (gQ hB hb) hk hc
 |scale=>
  obtain⟨a,b,r,hd,ha,hb⟩:=wR ho;rw[hd] at hk;exact Y4 hE (kH hs ha) (kH hs hb) (gQ hB ha) (gQ hB hb) hk hc
 |skew=>
  obtain⟨a,r,hd,ha⟩:=drop_one ho;rw[hd] at hk;change(xu Mv.skew a).2=c at hk;unfold xu at hk;by_cases h1:zh a=0
  ·rw[if_neg (by simp[h1])] at hk;exact(hc hk.symm).elim
  ·rw[if_pos h1] at hk;subst hk;exact QZ W.heap.size o cap B 1 a _ V (by decide) (gQ hB ha) (fun U hU=>Ia (kH hs ha) h1 U (hE.below hU ai))
theorem Ud {aT aB aS:Addr}{W:ag}(h:E4 aT aB aS W){ws:List aC}:Ox aT aB aS W ws:=by
 intro V o cap c hV hB ho hk hc;have hE:=h.below hV ai;obtain⟨a,r,hd,ha⟩:=drop_one ho;rw[hd] at hk;have hw:=gQ hB ha;change(BK a).2=c at hk;unfold BK at hk;by_cases h0:a=⟨#[48]⟩
 ·rw[if_pos h0] at hk;exact(hc hk.symm).elim
 ·rw[if_neg h0] at hk;by_cases h1:a=⟨#[49]⟩
  ·rw[if_pos h1] at hk;exact(hc hk.symm).elim
  ·rw[if_neg h1] at hk;by_cases h2:a=⟨#[50]⟩
   ·rw[if_pos h2] at hk;exact(hc hk.symm).elim
   ·rw[if_neg h2] at hk;by_cases h3:a=⟨#[51]⟩
    ·rw[if_pos h3] at hk;exact(hc hk.symm).elim
    ·rw[if_neg h3] at hk;subst hk;exact a1G W.heap.size o cap a aT V hw hE.t h0 h1 h2 h3
end
section
open Go.RowKit
set_option maxRecDepth 20000
attribute [local go_sem] gP mD
theorem Ue {f:Nat}{k:aC}{ws:List aC}{acc R:List Mv}{c:Nat}(h:fP f (k::ws) acc=(R,c))(hf:1<=f):
  (qG k=none/\c=1)\/(∃kd,qG k=some kd/\ws.length<kd.n/\c=1)\/(∃kd,qG k=some kd/\kd.n<=ws.length/\(FP kd ws).2=c/\c≠0)\/
   (∃f' kd m,f=f'+1/\qG k=some kd/\kd.n<=ws.length/\FP kd ws=(m,0)/\fP f' (ws.drop kd.n) (acc++[m])=(R,c)):=by
 cases f with
 |zero=>omega
 |succ f=>
  unfold fP at h;cases hk:qG k with
  |none=>rw[hk] at h;exact .inl ⟨rfl,(congrArg Prod.snd h).symm⟩
  |some kd=>
   rw[hk] at h;simp only at h;by_cases hl:ws.length<kd.n
   ·rw[if_pos hl] at h;exact .inr (.inl ⟨kd,rfl,hl,(congrArg Prod.snd h).symm⟩)
   ·rw[if_neg hl] at h;by_cases h0:(FP kd ws).2=0
    ·rw[if_pos h0] at h;exact .inr (.inr (.inr ⟨f,kd,_,rfl,rfl,by omega,Prod.ext rfl h0,h⟩))
    ·rw[if_neg h0] at h;have h1:(FP kd ws).2=c:=congrArg Prod.snd h;exact .inr (.inr (.inl ⟨kd,rfl,by omega,h1,h1▸h0⟩))
theorem a1I {k:aC}(h:qG k=none):k≠FI/\k≠xQ/\k≠zb/\k≠FJ:=by
 unfold qG at h;refine⟨fun e=>?_,fun e=>?_,fun e=>?_,fun e=>?_⟩
 ·rw[if_pos e] at h;cases h
 all_goals
  subst e;revert h;decide+kernel
theorem Ib (aT aB aS:Addr)(s:aC)(ws:List aC)(N:Nat)(R:List Mv)(c:Nat)(W:ag)(hE:E4 aT aB aS W)(hs:s.size<4294967281)(hne:s.toList.isEmpty=false)(hN:Lib.countB s ⟨#[32]⟩+1=N)(hw:Lib.splitB ⟨#[32]⟩ 0 (Lib.countB s ⟨#[32]⟩) s=ws)(hlen:ws.length=N)(hN':N<=1000)
  (hR:fP N ws []=(R,c)) (KA:∀k kd,qG k=some kd->kd≠.turn->L9 k kd) (KT:∀k,qG k=some .turn->k=zb) (RA:∀kd,kd≠.turn->Xr W ws kd) (RT:Xt W ws) (WA:∀kd,kd≠.turn->Ow aT aB aS W ws kd) (WT:Ox aT aB aS W ws):
  au 198 #[.string s] W fun e w'=>((c=0/\∃v,e=.returned (.tuple #[v,.nilIface])/\w'.ownsRow (W.heap.size+1) 125 12 v R.length (kV R))\/(c≠0/\e=.returned (.tuple #[.slice none 0 0,.iface 401 (.pointer (some (eA aT aB aS c)))])))/\Below W.heap.size W w':=by
 have HS:=xS s hs W;rw[hw,hN] at HS;clear hs;obtain⟨i0,hi,hz0,hz1,hz2⟩:=info_parts Xg;go_enter func198,ntmps198;go_wp2_with(go_at_call 239;refine HS.mono ?_;rintro e w' ⟨rfl,rfl⟩)
 go_loopw [4,5] (fun lv wv wr=>∃(j r f:Nat) (acc:List Mv),j+r=N/\acc.length<=j/\(∃a,wv=.slice a r r/\(r≠0->a=some ⟨W.heap.size,j,none⟩))/\wr.ownsRow (W.heap.size+1) 125 12 lv acc.length (kV acc)/\dY wr W.heap.size (ws.map Value.string).toArray 9/\Below W.heap.size W wr/\r<=f/\fP f (ws.drop j) acc=(R,c)) (fun _ wv _=>lenOf wv)
 case atStart=>exact⟨0,N,N,[],by omega,by simp,⟨_,rfl,fun _=>rfl⟩,eH _ _ _ _,dY.new W _ _,(aG _ W).alloc ai _,Nat.le_refl _,hR⟩
 case round=>
  obtain⟨j,r,f,acc,hjr,haj,⟨ad,rfl,had⟩,hown,hblk,hlow,hrf,hRf⟩:=hrel;cases r with
  |zero=>
   have hd:ws.drop j=[]:=List.drop_eq_nil_of_le (by omega);rw[hd] at hRf;have hacc:acc=R:=by cases f<;>exact congrArg Prod.fst hRf
   have hcc:c=0:=by cases f<;>exact(congrArg Prod.snd hRf).symm
   clear hRf;subst hacc hcc;go_wp2
   go_ret2
   exact⟨⟨_,rfl,hown⟩,hlow⟩
  |succ r=>
   obtain rfl:=had (by omega);clear had;obtain⟨k,hk,hd⟩:=drop_cons hlen hjr;rw[hd] at hRf;have adL:=Ue hRf (by omega);clear hRf hR;have c0:=gQ hblk hk;clear hd;rcases adL with⟨hkd,rfl⟩|⟨kd,hkd,hnl,rfl⟩|⟨kd,hkd,hnl,hkr,hc⟩|⟨f',kd,m,hff,hkd,hnl,hkr,hRg⟩
   ·obtain⟨q1,q2,q3,q4⟩:=a1I hkd;have hKN:=fun V=>L8 k V q1 q2 q3 q4;clear q1 q2 q3 q4 KA RA RT WA WT;rcases Nat.eq_zero_or_pos r with rfl|hr1
    all_goals try have hr1':(1:Int)<=(r:Int):=by omega
    all_goals
     go_wp2_with(go_at_call 243;refine(hKN _).mono ?_;rintro e w1 ⟨rfl,hb1⟩;have L1:=hlow.trans (hb1.mono hlow.size));have L2:=L1.alloc L1.size (.cells #[aa 0,.nilFunc] 337);obtain⟨V,hV⟩:∃V,w1.alloc (.cells #[aa 0,.nilFunc] 337)=V:=⟨_,rfl⟩;rw[hV] at L2⊢;clear hV;have cT:=(hE.below L2 ai).t;clear hb1 hlow hblk hown c0 L1;go_region;go_wp2
     go_ret2
     exact⟨.inr ⟨by first|decide|exact hc,rfl⟩,below_drewN L2 1⟩
   ·rw[List.length_drop] at hnl;by_cases ht:kd=.turn
    ·subst ht;have hkt:=KT k hkd;subst hkt;rw[show Kd.turn.n=1 from rfl] at hnl;have hr0:r=0:=by omega
     subst hr0;clear KA RA RT WA WT;go_wp2_with(go_at_call 243;refine(qZ _).mono ?_;rintro e w1 ⟨rfl,hb1⟩;have L1:=hlow.trans (hb1.mono hlow.size);have B1:=hblk.below hb1 ai);have L2:=L1.alloc L1.size (.cells #[aa 1,.func (.func 280) #[] #[]] 337);obtain⟨V,hV⟩:∃V,w1.alloc (.cells #[aa 1,.func (.func 280) #[] #[]] 337)=V:=⟨_,rfl⟩;rw[hV] at L2⊢;clear hV;have cT:=(hE.below L2 ai).t;clear hb1 hlow hblk hown c0 L1;go_region;go_wp2
     go_ret2
     exact⟨.inr ⟨by first|decide|exact hc,rfl⟩,below_drewN L2 1⟩
    ·have hKA:=KA k kd hkd ht;unfold L9 at hKA;obtain⟨hn1,hn2⟩:=kd.n_pos;generalize kd.n=n at*;have hnr:r<n:=by omega
     have a1J:(r:Int)<(n:Int):=by omega
     clear KA RA RT WA WT;rcases Nat.eq_zero_or_pos r with rfl|hr1
     all_goals try have hr1':(1:Int)<=(r:Int):=by omega
     all_goals
      go_wp2_with(go_at_call 243;refine(hKA _).mono ?_;rintro e w1 ⟨⟨B,hB,rfl,hBc⟩,hb1⟩;have L1:=hlow.trans (hb1.mono hlow.size);have B1:=hblk.below hb1 ai);have L2:=L1.alloc L1.size (.cells #[aa n,.func (.func 300) #[] #[ay B]] 337);obtain⟨V,hV⟩:∃V,w1.alloc (.cells #[aa n,.func (.func 300) #[] #[ay B]] 337)=V:=⟨_,rfl⟩;rw[hV] at L2⊢;clear hV;have cT:=(hE.below L2 ai).t;clear hb1 hlow hblk hown c0 L1;go_region;go_wp2
      go_ret2
      exact⟨.inr ⟨by first|decide|exact hc,rfl⟩,below_drewN L2 1⟩
   ·rw[List.length_drop] at hnl;by_cases ht:kd=.turn
    ·subst ht;have hkt:=KT k hkd;subst hkt;have hWT:=WT;unfold Ox at hWT;rw[show Kd.turn.n=1 from rfl] at hnl;have hnr:1<=r:=by omega
     have a1J:(1:Int)<=(r:Int):=by omega
     clear KA RA RT WA WT;go_wp2_with(go_at_call 243;refine(qZ _).mono ?_;rintro e w1 ⟨rfl,hb1⟩;have L1:=hlow.trans (hb1.mono hlow.size);have B1:=hblk.below hb1 ai);have K2:=dY.new w1 #[aa 1,.func (.func 280) #[] #[]] 337;have L2:=L1.alloc L1.size (.cells #[aa 1,.func (.func 280) #[] #[]] 337);have B2:=B1.alloc (.cells #[aa 1,.func (.func 280) #[] #[]] 337);obtain⟨V,hV⟩:∃V,w1.alloc (.cells #[aa 1,.func (.func 280) #[] #[]] 337)=V:=⟨_,rfl⟩;have hVs:w1.heap.size<V.heap.size:=by rw[<- hV];simp
     rw[hV] at K2 L2 B2⊢;clear hV L1 B1 hb1;have hlt:=K2.lt;have L3:=L2.alloc L2.size (.cells zA 125);have L2d:Below W.heap.size W V.drew:=below_drewN L2 1;have L3d:Below W.heap.size W (V.alloc (.cells zA 125)).drew:=below_drewN L3 1;have B2d:=B2.drew;have B3d:=(B2.alloc (.cells zA 125)).drew;have HZ:∀u,Below (V.alloc (.cells zA 125)).drew.heap.size (V.alloc (.cells zA 125)).drew u->dY u V.heap.size zA 125:=fun u h=>sF h;have k0:=K2.cell 0 _ rfl;have k1:=K2.cell 1 _ rfl;have k0d:V.drew.cell? ⟨w1.heap.size,0,none⟩=some (aa 1):=k0;have k1d:V.drew.cell? ⟨w1.heap.size,1,none⟩=some (.func (.func 280) #[] #[]):=k1;have k0e:(V.alloc (.cells zA 125)).drew.cell? ⟨w1.heap.size,0,none⟩=some (aa 1):=ax _ k0;have k1e:(V.alloc (.cells zA 125)).drew.cell? ⟨w1.heap.size,1,none⟩=some (.func (.func 280) #[] #[]):=ax _ k1;have nv:w1.heap.size≠V.heap.size:=by omega
     have nv':¬V.heap.size=w1.heap.size:=by omega
     have hle:j+1+1<=ws.length:=by omega
     go_cut [8,9] from 14 to 56 (fun p v wx=>v=.iface 401 (.pointer (some (eA aT aB aS c)))/\(∃R,p=ay R)/\Below V.heap.size V wx)
     case first=>
      go_region_held3 (fun w'=>w'.cell? ⟨w1.heap.size,0,none⟩=some (aa 1)/\w'.cell? ⟨w1.heap.size,1,none⟩=some (.func (.func 280) #[] #[])) (refine⟨?_,?_⟩<;>(repeat rw[aO _ _ _ _ nv'])<;>assumption) ((go_at_call 280;refine(hWT _ (j+1) _ c ?_ ?_ hle hkr hc).mono ?_;(first|exact L2d|exact L3d);(first|exact B2d|exact B3d);rintro e w3 ⟨rfl,hb3⟩;dsimp only[Mv.zero,Fr.zero];have hz3:=hb3.size;have hs3:=Hf hb3 (by assumption);obtain⟨j0,j1⟩:=hs3;have y0:=fun o=>ax o j0;have y1:=fun o=>ax o j1;have y4:=ax (.cells zA 125) j0;have y5:=ax (.cells zA 125) j1;(first|(have BZ:=HZ _ hb3;obtain⟨qC,Fy,qD,Fz,qE,FE,qF,FH,vJ,JR,vL,JS,vM,JU,vN,JV,vO,JW,vP,JX,jD,qW,jE,qX⟩:=BZ.six)|skip)))
      ·go_wp2_with fail
       go_meet
       exact⟨rfl,⟨_,rfl⟩,(ru hb3).alloc hz3 _⟩
      ·go_wp2_with fail
       go_meet
       have hb4:Below V.heap.size V w3:=((aG V.heap.size V).alloc ai (.cells zA 125)).trans ((ru hb3).mono (by simp));exact⟨rfl,⟨_,rfl⟩,aW (R:=V.heap.size) ai zL 0 hb4⟩
     case rest=>
      obtain⟨rfl,⟨R',rfl⟩,yK⟩:=hcut;go_wp2_with fail
      go_ret2
      exact⟨.inr ⟨by first|decide|exact hc,rfl⟩,L2.trans (yK.mono L2.size)⟩
    ·have hKA:=KA k kd hkd ht;have hWA:=WA kd ht;unfold L9 at hKA;unfold Ow at hWA;obtain⟨hn1,hn2⟩:=kd.n_pos;generalize kd.n=n at*;have hnr:n<=r:=by omega
     have a1J:(n:Int)<=(r:Int):=by omega
     have hn0:(0:Int)<=(n:Int):=by omega
     clear KA RA RT WA WT;go_wp2_with(go_at_call 243;refine(hKA _).mono ?_;rintro e w1 ⟨⟨B,hB,rfl,hBc⟩,hb1⟩;have L1:=hlow.trans (hb1.mono hlow.size);have B1:=hblk.below hb1 ai);have K2:=dY.new w1 #[aa n,.func (.func 300) #[] #[ay B]] 337;have L2:=L1.alloc L1.size (.cells #[aa n,.func (.func 300) #[] #[ay B]] 337);have B2:=B1.alloc (.cells #[aa n,.func (.func 300) #[] #[ay B]] 337);obtain⟨V,hV⟩:∃V,w1.alloc (.cells #[aa n,.func (.func 300) #[] #[ay B]] 337)=V:=⟨_,rfl⟩;have hVs:w1.heap.size<V.heap.size:=by rw[<- hV];simp
     rw[hV] at K2 L2 B2⊢;clear hV L1 B1 hb1;have hlt:=K2.lt;have L3:=L2.alloc L2.size (.cells zA 125);have L2d:Below W.heap.size W V.drew:=below_drewN L2 1;have L3d:Below W.heap.size W (V.alloc (.cells zA 125)).drew:=below_drewN L3 1;have B2d:=B2.drew;have B3d:=(B2.alloc (.cells zA 125)).drew;have HZ:∀u,Below (V.alloc (.cells zA 125)).drew.heap.size (V.alloc (.cells zA 125)).drew u->dY u V.heap.size zA 125:=fun u h=>sF h;have k0:=K2.cell 0 _ rfl;have k1:=K2.cell 1 _ rfl;have k0d:V.drew.cell? ⟨w1.heap.size,0,none⟩=some (aa n):=k0;have k1d:V.drew.cell? ⟨w1.heap.size,1,none⟩=some (.func (.func 300) #[] #[ay B]):=k1;have k0e:(V.alloc (.cells zA 125)).drew.cell? ⟨w1.heap.size,0,none⟩=some (aa n):=ax _ k0;have k1e:(V.alloc (.cells zA 125)).drew.cell? ⟨w1.heap.size,1,none⟩=some (.func (.func 300) #[] #[ay B]):=ax _ k1;have nv:w1.heap.size≠V.heap.size:=by omega
     have nv':¬V.heap.size=w1.heap.size:=by omega
     have hle:j+1+n<=ws.length:=by omega
     go_cut [8,9] from 14 to 56 (fun p v wx=>v=.iface 401 (.pointer (some (eA aT aB aS c)))/\(∃R,p=ay R)/\Below V.heap.size V wx)
     case first=>
      go_region_held3 (fun w'=>w'.cell? ⟨w1.heap.size,0,none⟩=some (aa n)/\w'.cell? ⟨w1.heap.size,1,none⟩=some (.func (.func 300) #[] #[ay B])) (refine⟨?_,?_⟩<;>(repeat rw[aO _ _ _ _ nv'])<;>assumption) ((go_at_call 300;refine(hWA _ (j+1) B _ c ?_ ?_ hle hkr hc).mono ?_;(first|exact L2d|exact L3d);(first|exact B2d|exact B3d);rintro e w3 ⟨rfl,hb3⟩;dsimp only[Mv.zero,Fr.zero];have hz3:=hb3.size;have hs3:=Hf hb3 (by assumption);obtain⟨j0,j1⟩:=hs3;have y0:=fun o=>ax o j0;have y1:=fun o=>ax o j1;have y4:=ax (.cells zA 125) j0;have y5:=ax (.cells zA 125) j1;(first|(have BZ:=HZ _ hb3;obtain⟨qC,Fy,qD,Fz,qE,FE,qF,FH,vJ,JR,vL,JS,vM,JU,vN,JV,vO,JW,vP,JX,jD,qW,jE,qX⟩:=BZ.six)|skip)))
      ·go_wp2_with fail
       go_meet
       exact⟨rfl,⟨_,rfl⟩,(ru hb3).alloc hz3 _⟩
      ·go_wp2_with fail
       go_meet
       have hb4:Below V.heap.size V w3:=((aG V.heap.size V).alloc ai (.cells zA 125)).trans ((ru hb3).mono (by simp));exact⟨rfl,⟨_,rfl⟩,aW (R:=V.heap.size) ai zL 0 hb4⟩
     case rest=>
      obtain⟨rfl,⟨R',rfl⟩,yK⟩:=hcut;go_wp2_with fail
      go_ret2
      exact⟨.inr ⟨by first|decide|exact hc,rfl⟩,L2.trans (yK.mono L2.size)⟩
   ·rw[List.length_drop] at hnl;by_cases ht:kd=.turn
    ·subst ht;have hkt:=KT k hkd;subst hkt;have hRT:=RT;unfold Xt at hRT;rw[show Kd.turn.n=1 from rfl] at hnl hRg;have hnr:1<=r:=by omega
     have a1J:(1:Int)<=(r:Int):=by omega
     clear KA RA RT WA WT;go_wp2_with(go_at_call 243;refine(qZ _).mono ?_;rintro e w1 ⟨rfl,hb1⟩;have L1:=hlow.trans (hb1.mono hlow.size);have B1:=hblk.below hb1 ai;have O1:=ownsRow_below hown hb1);have K2:=dY.new w1 #[aa 1,.func (.func 280) #[] #[]] 337;have L2:=L1.alloc L1.size (.cells #[aa 1,.func (.func 280) #[] #[]] 337);have B2:=B1.alloc (.cells #[aa 1,.func (.func 280) #[] #[]] 337);have O2:=O1.alloc (.cells #[aa 1,.func (.func 280) #[] #[]] 337);have q1:=hb1.size;obtain⟨V,hV⟩:∃V,w1.alloc (.cells #[aa 1,.func (.func 280) #[] #[]] 337)=V:=⟨_,rfl⟩;have hVs:w1.heap.size<V.heap.size:=by rw[<- hV];simp
     rw[hV] at K2 L2 B2 O2⊢;clear hV L1 B1 O1 hb1;have hlt:=K2.lt;have hOh:=Xq hown;have hOl:=O7 hown;have L3:=L2.alloc L2.size (.cells zA 125);have L2d:Below W.heap.size W V.drew:=below_drewN L2 1;have L3d:Below W.heap.size W (V.alloc (.cells zA 125)).drew:=below_drewN L3 1;have B2d:=B2.drew;have B3d:=(B2.alloc (.cells zA 125)).drew;have HZ:∀u,Below (V.alloc (.cells zA 125)).drew.heap.size (V.alloc (.cells zA 125)).drew u->dY u V.heap.size zA 125:=fun u h=>sF h;have k0:=K2.cell 0 _ rfl;have k1:=K2.cell 1 _ rfl;have k0d:V.drew.cell? ⟨w1.heap.size,0,none⟩=some (aa 1):=k0;have k1d:V.drew.cell? ⟨w1.heap.size,1,none⟩=some (.func (.func 280) #[] #[]):=k1;have k0e:(V.alloc (.cells zA 125)).drew.cell? ⟨w1.heap.size,0,none⟩=some (aa 1):=ax _ k0;have k1e:(V.alloc (.cells zA 125)).drew.cell? ⟨w1.heap.size,1,none⟩=some (.func (.func 280) #[] #[]):=ax _ k1;have nv:w1.heap.size≠V.heap.size:=by omega
     have nv':¬V.heap.size=w1.heap.size:=by omega
     have hle:j+1+1<=ws.length:=by omega
     go_cut [8,9] from 14 to 56 (fun p v wx=>v=.nilIface/\∃R,p=ay R/\V.heap.size<=R/\(∀j u,(mL m)[j]? =some u->wx.cell? (ak R j)=some u)/\Below V.heap.size V wx)
     case first=>
      go_region_held3 (fun w'=>w'.cell? ⟨w1.heap.size,0,none⟩=some (aa 1)/\w'.cell? ⟨w1.heap.size,1,none⟩=some (.func (.func 280) #[] #[])) (refine⟨?_,?_⟩<;>(repeat rw[aO _ _ _ _ nv'])<;>assumption) ((go_at_call 280;refine(hRT _ (j+1) _ m ?_ ?_ hle hkr).mono ?_;(first|exact L2d|exact L3d);(first|exact B2d|exact B3d);rintro e w3 ⟨rfl,hb3⟩;have hz3:=hb3.size;have hs3:=Hf hb3 (by assumption);obtain⟨j0,j1⟩:=hs3;have y0:=fun o=>ax o j0;have y1:=fun o=>ax o j1;have y2:=ax (.cells (mA m) 125) j0;have y3:=ax (.cells (mA m) 125) j1;have y4:=ax (.cells zA 125) j0;have y5:=ax (.cells zA 125) j1;(first|(have BZ:=HZ _ hb3;obtain⟨qC,Fy,qD,Fz,qE,FE,qF,FH,vJ,JR,vL,JS,vM,JU,vN,JV,vO,JW,vP,JX,jD,qW,jE,qX⟩:=BZ.six)|skip)))
      ·go_wp2_with fail
       go_meet
       exact⟨rfl,w3.heap.size,rfl,hz3,QC (cs:=(mL m)),(ru hb3).alloc hz3 _⟩
      ·go_wp2_with fail
       go_meet
       have hb4:Below V.heap.size V w3:=((aG V.heap.size V).alloc ai (.cells zA 125)).trans ((ru hb3).mono (by simp));have hat:=He (R:=V.heap.size) (mL m) 0 w3 (fun i hi=>KJ BZ i hi);simp only[Nat.zero_add] at hat;exact⟨rfl,V.heap.size,rfl,Nat.le_refl _,hat,aW (R:=V.heap.size) ai (mL m) 0 hb4⟩
     case rest=>
      obtain⟨rfl,R',rfl,hR',hcells,yK⟩:=hcut;have KC:=K2.below yK ai;have kk:=KC.cell 0 _ rfl;have LC:=L2.trans (yK.mono L2.size);have BC:=B2.below yK ai;have OC:=((ownsRow_below O2 yK).alloc (.cells (mA m) 125));have OCd:(wc.alloc (.cells (mA m) 125)).drew.ownsRow (W.heap.size+1) 125 12 u4 acc.length (kV acc):=OC;obtain⟨m0,m1,m2,m3,m4,m5,m6,m7,m8,m9,m10,m11⟩:=And.intro (hcells 0 _ rfl) (And.intro (hcells 1 _ rfl) (And.intro (hcells 2 _ rfl) (And.intro (hcells 3 _ rfl) (And.intro (hcells 4 _ rfl) (And.intro (hcells 5 _ rfl) (And.intro (hcells 6 _ rfl) (And.intro (hcells 7 _ rfl) (And.intro (hcells 8 _ rfl) (And.intro (hcells 9 _ rfl) (And.intro (hcells 10 _ rfl) (hcells 11 _ rfl)))))))))));have szC:=yK.size;clear hcells k0 k1 k0d k1d k0e k1e HZ L2d L3d L3 B2d B3d OC;have H0:=dW wc (.cells (mA m) 125);go_wp2_with fail
      go_region_held3 (fun w'=>w'.cell? (ak R' 0)=some (aa m.a.n)/\w'.cell? (ak R' 1)=some (aa m.a.d)/\w'.cell? (ak R' 2)=some (aa m.b.n)/\w'.cell? (ak R' 3)=some (aa m.b.d)/\w'.cell? (ak R' 4)=some (aa m.c.n)/\w'.cell? (ak R' 5)=some (aa m.c.d)/\w'.cell? (ak R' 6)=some (aa m.d.n)/\w'.cell? (ak R' 7)=some (aa m.d.d)/\w'.cell? (ak R' 8)=some (aa m.e.n)/\w'.cell? (ak R' 9)=some (aa m.e.d)/\w'.cell? (ak R' 10)=some (aa m.f.n)/\w'.cell? (ak R' 11)=some (aa m.f.d)/\w'.cell? ⟨w1.heap.size,0,none⟩=some (aa 1)) (refine⟨?_,?_,?_,?_,?_,?_,?_,?_,?_,?_,?_,?_,?_⟩<;>first|assumption|exact ax _ (by assumption)|exact hA _ _ (by assumption) (by simp only;omega)) ((refine step_append_lies _ rfl (.tmp 49) (.tmp 51) 292 rfl (W.heap.size+1) 125 i0 (.agg zA) 12 96 underlying292 hi hz0 hz1 hz2 rfl (by decide) u4 acc.length (kV acc) rfl OCd ⟨wc.heap.size,0,none⟩ 1 1 (mL m) rfl rfl (World.news_of_block (w:=(wc.alloc (.cells (mA m) 125)).drew) (cs:=(mA m)) H0) a3P (by decide) (by unfold maxLen;omega) (by omega) (by have:=LC.size;simp;omega) _ rfl ?_;intro g cap w5 hown5 hgrow hat Oy;have hgr:World.grownBy (wc.alloc (.cells (mA m) 125)).drew w5 u4.ownBlock:=hgrow;have hA:∀p v,wc.cell? p=some v->(p.block=W.heap.size\/w1.heap.size<=p.block)->w5.cell? p=some v:=(fun p v h hp=>(hgr.cell_far p (by have:=aF h;simp;omega) (fun e=>by have:=hOh _ e.symm;have:=hOl _ e.symm;have:=q1;omega)).trans (ax (W:=wc) _ h))))
      go_wp2_with fail;rw[List.drop_drop] at hRg;refine⟨⟨j+1+1,r-1,f',acc++[m],by omega,by simp;omega,⟨_,rfl,fun h=>by rw[if_neg (by omega)]⟩,by rw[List.length_append,zi];exact hown5,((BC.alloc (.cells (mA m) 125)).drew).grown hgr (fun e=>by have:=hOl _ e;omega),(below_drewN (LC.alloc LC.size (.cells (mA m) 125)) 1).grown hgr (by have:=LC.size;simp;omega) (fun k e=>by have:=hOl k e;omega),by omega,hRg⟩,by simp only[lenOf];omega⟩
    ·have hKA:=KA k kd hkd ht;have hRA:=RA kd ht;unfold L9 at hKA;unfold Xr at hRA;obtain⟨hn1,hn2⟩:=kd.n_pos;generalize kd.n=n at*;have hnr:n<=r:=by omega
     have a1J:(n:Int)<=(r:Int):=by omega
     have hn0:(0:Int)<=(n:Int):=by omega
     clear KA RA RT WA WT;go_wp2_with(go_at_call 243;refine(hKA _).mono ?_;rintro e w1 ⟨⟨B,hB,rfl,hBc⟩,hb1⟩;have L1:=hlow.trans (hb1.mono hlow.size);have B1:=hblk.below hb1 ai;have O1:=ownsRow_below hown hb1);have C2:=ax (.cells #[aa n,.func (.func 300) #[] #[ay B]] 337) hBc;have K2:=dY.new w1 #[aa n,.func (.func 300) #[] #[ay B]] 337;have L2:=L1.alloc L1.size (.cells #[aa n,.func (.func 300) #[] #[ay B]] 337);have B2:=B1.alloc (.cells #[aa n,.func (.func 300) #[] #[ay B]] 337);have O2:=O1.alloc (.cells #[aa n,.func (.func 300) #[] #[ay B]] 337);have q1:=hb1.size;obtain⟨V,hV⟩:∃V,w1.alloc (.cells #[aa n,.func (.func 300) #[] #[ay B]] 337)=V:=⟨_,rfl⟩;have hVs:w1.heap.size<V.heap.size:=by rw[<- hV];simp
     rw[hV] at K2 L2 B2 O2 C2⊢;clear hV L1 B1 O1 hb1 hBc;have hlt:=K2.lt;have hOh:=Xq hown;have hOl:=O7 hown;have L3:=L2.alloc L2.size (.cells zA 125);have L2d:Below W.heap.size W V.drew:=below_drewN L2 1;have L3d:Below W.heap.size W (V.alloc (.cells zA 125)).drew:=below_drewN L3 1;have B2d:=B2.drew;have B3d:=(B2.alloc (.cells zA 125)).drew;have C2d:V.drew.cell? (ak B 0)=some (.func (.func kd.f) #[] #[]):=C2;have C3d:(V.alloc (.cells zA 125)).drew.cell? (ak B 0)=some (.func (.func kd.f) #[] #[]):=ax _ C2;have HZ:∀u,Below (V.alloc (.cells zA 125)).drew.heap.size (V.alloc (.cells zA 125)).drew u->dY u V.heap.size zA 125:=fun u h=>sF h;have k0:=K2.cell 0 _ rfl;have k1:=K2.cell 1 _ rfl;have k0d:V.drew.cell? ⟨w1.heap.size,0,none⟩=some (aa n):=k0;have k1d:V.drew.cell? ⟨w1.heap.size,1,none⟩=some (.func (.func 300) #[] #[ay B]):=k1;have k0e:(V.alloc (.cells zA 125)).drew.cell? ⟨w1.heap.size,0,none⟩=some (aa n):=ax _ k0;have k1e:(V.alloc (.cells zA 125)).drew.cell? ⟨w1.heap.size,1,none⟩=some (.func (.func 300) #[] #[ay B]):=ax _ k1;have nv:w1.heap.size≠V.heap.size:=by omega
     have nv':¬V.heap.size=w1.heap.size:=by omega
     have hle:j+1+n<=ws.length:=by omega
     go_cut [8,9] from 14 to 56 (fun p v wx=>v=.nilIface/\∃R,p=ay R/\V.heap.size<=R/\(∀j u,(mL m)[j]? =some u->wx.cell? (ak R j)=some u)/\Below V.heap.size V wx)
     case first=>
      go_region_held3 (fun w'=>w'.cell? ⟨w1.heap.size,0,none⟩=some (aa n)/\w'.cell? ⟨w1.heap.size,1,none⟩=some (.func (.func 300) #[] #[ay B])) (refine⟨?_,?_⟩<;>(repeat rw[aO _ _ _ _ nv'])<;>assumption) ((go_at_call 300;refine(hRA _ (j+1) B _ m ?_ ?_ ?_ hle hkr).mono ?_;(first|exact L2d|exact L3d);(first|exact B2d|exact B3d);(first|exact C2d|exact C3d);rintro e w3 ⟨rfl,hb3⟩;have hz3:=hb3.size;have hs3:=Hf hb3 (by assumption);obtain⟨j0,j1⟩:=hs3;have y0:=fun o=>ax o j0;have y1:=fun o=>ax o j1;have y2:=ax (.cells (mA m) 125) j0;have y3:=ax (.cells (mA m) 125) j1;have y4:=ax (.cells zA 125) j0;have y5:=ax (.cells zA 125) j1;(first|(have BZ:=HZ _ hb3;obtain⟨qC,Fy,qD,Fz,qE,FE,qF,FH,vJ,JR,vL,JS,vM,JU,vN,JV,vO,JW,vP,JX,jD,qW,jE,qX⟩:=BZ.six)|skip)))
      ·go_wp2_with fail
       go_meet
       exact⟨rfl,w3.heap.size,rfl,hz3,QC (cs:=(mL m)),(ru hb3).alloc hz3 _⟩
      ·go_wp2_with fail
       go_meet
       have hb4:Below V.heap.size V w3:=((aG V.heap.size V).alloc ai (.cells zA 125)).trans ((ru hb3).mono (by simp));have hat:=He (R:=V.heap.size) (mL m) 0 w3 (fun i hi=>KJ BZ i hi);simp only[Nat.zero_add] at hat;exact⟨rfl,V.heap.size,rfl,Nat.le_refl _,hat,aW (R:=V.heap.size) ai (mL m) 0 hb4⟩
     case rest=>
      obtain⟨rfl,R',rfl,hR',hcells,yK⟩:=hcut;have KC:=K2.below yK ai;have kk:=KC.cell 0 _ rfl;have LC:=L2.trans (yK.mono L2.size);have BC:=B2.below yK ai;have OC:=((ownsRow_below O2 yK).alloc (.cells (mA m) 125));have OCd:(wc.alloc (.cells (mA m) 125)).drew.ownsRow (W.heap.size+1) 125 12 u4 acc.length (kV acc):=OC;obtain⟨m0,m1,m2,m3,m4,m5,m6,m7,m8,m9,m10,m11⟩:=And.intro (hcells 0 _ rfl) (And.intro (hcells 1 _ rfl) (And.intro (hcells 2 _ rfl) (And.intro (hcells 3 _ rfl) (And.intro (hcells 4 _ rfl) (And.intro (hcells 5 _ rfl) (And.intro (hcells 6 _ rfl) (And.intro (hcells 7 _ rfl) (And.intro (hcells 8 _ rfl) (And.intro (hcells 9 _ rfl) (And.intro (hcells 10 _ rfl) (hcells 11 _ rfl)))))))))));have szC:=yK.size;clear hcells k0 k1 k0d k1d k0e k1e HZ L2d L3d L3 B2d B3d OC;have H0:=dW wc (.cells (mA m) 125);go_wp2_with fail
      go_region_held3 (fun w'=>w'.cell? (ak R' 0)=some (aa m.a.n)/\w'.cell? (ak R' 1)=some (aa m.a.d)/\w'.cell? (ak R' 2)=some (aa m.b.n)/\w'.cell? (ak R' 3)=some (aa m.b.d)/\w'.cell? (ak R' 4)=some (aa m.c.n)/\w'.cell? (ak R' 5)=some (aa m.c.d)/\w'.cell? (ak R' 6)=some (aa m.d.n)/\w'.cell? (ak R' 7)=some (aa m.d.d)/\w'.cell? (ak R' 8)=some (aa m.e.n)/\w'.cell? (ak R' 9)=some (aa m.e.d)/\w'.cell? (ak R' 10)=some (aa m.f.n)/\w'.cell? (ak R' 11)=some (aa m.f.d)/\w'.cell? ⟨w1.heap.size,0,none⟩=some (aa n)) (refine⟨?_,?_,?_,?_,?_,?_,?_,?_,?_,?_,?_,?_,?_⟩<;>first|assumption|exact ax _ (by assumption)|exact hA _ _ (by assumption) (by simp only;omega)) ((refine step_append_lies _ rfl (.tmp 49) (.tmp 51) 292 rfl (W.heap.size+1) 125 i0 (.agg zA) 12 96 underlying292 hi hz0 hz1 hz2 rfl (by decide) u4 acc.length (kV acc) rfl OCd ⟨wc.heap.size,0,none⟩ 1 1 (mL m) rfl rfl (World.news_of_block (w:=(wc.alloc (.cells (mA m) 125)).drew) (cs:=(mA m)) H0) a3P (by decide) (by unfold maxLen;omega) (by omega) (by have:=LC.size;simp;omega) _ rfl ?_;intro g cap w5 hown5 hgrow hat Oy;have hgr:World.grownBy (wc.alloc (.cells (mA m) 125)).drew w5 u4.ownBlock:=hgrow;have hA:∀p v,wc.cell? p=some v->(p.block=W.heap.size\/w1.heap.size<=p.block)->w5.cell? p=some v:=(fun p v h hp=>(hgr.cell_far p (by have:=aF h;simp;omega) (fun e=>by have:=hOh _ e.symm;have:=hOl _ e.symm;have:=q1;omega)).trans (ax (W:=wc) _ h))))
      go_wp2_with fail;rw[List.drop_drop] at hRg;refine⟨⟨j+1+n,r-n,f',acc++[m],by omega,by simp;omega,⟨_,rfl,fun h=>by rw[if_neg (by omega)]⟩,by rw[List.length_append,zi];exact hown5,((BC.alloc (.cells (mA m) 125)).drew).grown hgr (fun e=>by have:=hOl _ e;omega),(below_drewN (LC.alloc LC.size (.cells (mA m) 125)) 1).grown hgr (by have:=LC.size;simp;omega) (fun k e=>by have:=hOl k e;omega),by omega,hRg⟩,by simp only[lenOf];omega⟩
end
section
open Go.RowKit
theorem Ic {α β:Type}{p:α×β}{b:β}(h:p.2=b):p=(p.1,b):=by cases p;cases h;rfl
theorem iP (m a:Mv)(l:List Mv):jO m (a::l)=if(thenS m a).2=0 then jO (thenS m a).1 l else(.zero,2):=rfl
theorem Uf (p q:List Mv)(m:Mv)(h:(jO m (p++q)).2=0):(jO m p).2=0:=by
 induction p generalizing m with
 |nil=>rfl
 |cons a p ih=>
  rw[List.cons_append,iP] at h;rw[iP];by_cases h1:(thenS m a).2=0
  ·rw[if_pos h1] at h⊢;exact ih _ h
  ·rw[if_neg h1] at h;cases h
theorem Cu (l:List Mv)(m n:Mv)(h:(jO m l).2=0):jO m (l++[n])=if(thenS (jO m l).1 n).2=0 then((thenS (jO m l).1 n).1,0) else(.zero,2):=by
 induction l generalizing m with
 |nil=>exact iP m n []
 |cons a l ih=>
  rw[List.cons_append,iP,iP];rw[iP] at h;by_cases h1:(thenS m a).2=0
  ·rw[if_pos h1] at h;rw[if_pos h1,if_pos h1];exact ih _ h
  ·rw[if_neg h1] at h;cases h
theorem Cv (l:List Mv)(m:Mv)(hm:m.ok)(hl:∀n∈l,n.ok)(h:(jO m l).2=0):(jO m l).1.ok:=by
 induction l generalizing m with
 |nil=>exact hm
 |cons a l ih=>
  rw[iP] at h⊢;by_cases h1:(thenS m a).2=0
  ·rw[if_pos h1] at h⊢;exact ih _ ((xM hm (hl a (by simp))).2 h1).1 (fun n hn=>hl n (by simp[hn])) h
  ·rw[if_neg h1] at h;cases h
theorem G7 (l:List Mv)(m:Mv):(jO m l).2=0\/jO m l=(.zero,2):=by
 induction l generalizing m with
 |nil=>exact .inl rfl
 |cons a l ih=>
  rw[iP];by_cases h1:(thenS m a).2=0
  ·rw[if_pos h1];exact ih _
  ·rw[if_neg h1];exact .inr rfl
theorem Y5 (R:List Mv):(bf R.length).map (fun j=>R.getD j .one)=R.reverse:=by
 apply List.ext_getElem?;intro i;unfold bf;rw[List.map_map,List.getElem?_map];by_cases h:i<R.length
 ·rw[List.getElem?_range h,List.getElem?_reverse h];simp[dK (show R.length-1-i<R.length by omega)]
 ·rw[List.getElem?_eq_none (by simp;omega),List.getElem?_eq_none (by simp;omega)];rfl
theorem G8:∀(f:Nat) (ws:List aC) (acc:List Mv),(fP f ws acc).2≠0->(fP f ws acc).1=[]
 |_,[],acc,h=>by simp[fP] at h
 |0,_::_,_,_=>rfl
 |f+1,k::ws,acc,h=>by
  unfold fP at h⊢;cases hk:qG k with
  |none=>rfl
  |some kd=>
   rw[hk] at h;simp only at h⊢;split at h
   ·rename_i h1;rw[if_pos h1]
   ·rename_i h1;rw[if_neg h1];split at h
    ·rename_i h2;rw[if_pos h2];exact G8 f _ _ h
    ·rename_i h2;rw[if_neg h2]
theorem G9:∀(f:Nat) (ws:List aC) (acc:List Mv),(fP f ws acc).2=0->acc.length<=(fP f ws acc).1.length/\(fP f ws acc).1.length<=acc.length+ws.length/\(ws≠[]->acc.length<(fP f ws acc).1.length)
 |_,[],acc,_=>by simp[fP]
 |0,_::_,_,h=>by simp[fP] at h
 |f+1,k::ws,acc,h=>by
  unfold fP at h⊢;cases hk:qG k with
  |none=>rw[hk] at h;simp at h
  |some kd=>
   rw[hk] at h;simp only at h⊢;split at h
   ·simp at h
   ·rename_i h1;rw[if_neg h1];split at h
    ·rename_i h2;rw[if_pos h2];obtain⟨a1,a2,_⟩:=G9 f _ _ h;simp only[List.length_append,List.length_cons,List.length_nil,List.length_drop] at a1 a2⊢;exact⟨by omega,by omega,fun _=>by omega⟩
    ·rename_i h2;exact(h2 h).elim
theorem Cw:∀(k:Nat) (s:aC),∀a∈Lib.splitB ⟨#[32]⟩ 0 k s,a.size<=s.size
 |0,s,a,h=>by rw[Lib.splitB_zero] at h;simp at h;subst h;exact Nat.le_refl _
 |k+1,s,a,h=>by
  unfold Lib.splitB at h;split at h
  ·simp at h;subst h;exact Nat.le_refl _
  ·rcases List.mem_cons.1 h with rfl|h
   ·rw[ByteArray.size_extract];omega
   ·have:=Cw k _ a h;rw[ByteArray.size_extract] at this;omega
def er0 (aT aB aS:Addr)(c:Nat):ah:=if c=0 then .nilIface else .iface 401 (.pointer (some (eA aT aB aS c)))
theorem Cx (W:ag):au 198 #[.string ⟨#[]⟩] W fun e w'=>e=.returned (.tuple #[.slice none 0 0,.nilIface])/\Below W.heap.size W w':=by
 go_enter func198,ntmps198;go_wp2
 go_ret2
 exact⟨rfl,aG _ _⟩
attribute [local irreducible] thenS in
theorem Y6 {aT aB aS:Addr}(s:aC)(hs:s.size<=900)(W:ag)(hE:E4 aT aB aS W):
    au 146 #[.string s] W fun e w'=>e=.returned (.tuple #[mv (je s).1,er0 aT aB aS (je s).2])/\Below W.heap.size W w':=by
  by_cases h0:s.size=0
  · have hs0:s=⟨#[]⟩:=ext_list (iC.1 (by rw[kg];exact h0))
    subst hs0;have:=Xk ⟨#[]⟩ W (fun V _=>Cx V);exact callsIn_wide.1 this
  · have hne:s.toList.isEmpty=false:=by
      rw[ByteArray.toList_eq,List.isEmpty_eq_false_iff];intro e;exact h0 (by rw[<- kg,e];rfl)
    have hlen:(words s).length=Lib.countB s ⟨#[32]⟩+1:=Lib.splitB_all ⟨#[32]⟩ (by decide) 0 _ s rfl;have hle:=Lib.countB_le ⟨#[32]⟩ (by decide) s.size s ai;have hsz:∀a∈words s,a.size<=1000000:=fun a ha=>by have:=Cw _ s a ha;omega
    have hL:mq s=fP (words s).length (words s) []:=by unfold mq;rw[if_neg h0]
    have RL:=fun V (hV:Below W.heap.size W V) R c hR=>Ib aT aB aS s (words s) (words s).length R c V (hE.below hV ai) (by omega) hne hlen.symm rfl rfl (by omega) hR (fun k kd h1 h2=>XW h1 h2) (fun k h=>XX h) (fun kd h=>XZ (hE.below hV ai) hsz h) Y3 (fun kd h=>Uc (hE.below hV ai) hsz h) (Ud (hE.below hV ai));by_cases hc:(mq s).2=0
    · have hR:fP (words s).length (words s) []=((mq s).1,0):=by rw[<- hL];exact Prod.ext rfl hc
      obtain⟨_,l2,l3⟩:=G9 (words s).length (words s) [] (by rw[hR]);have hok:=BL (words s).length (words s) [] (by simp) (by rw[hR]);rw[hR] at l2 l3 hok;have l4:=l3 (fun e=>by rw[e] at hlen;simp at hlen);simp only[List.length_nil] at l2 l4;obtain⟨R,hRR⟩:∃R,(mq s).1=R:=⟨_,rfl⟩;rw[hRR] at hR l2 l4 hok;have hms:∀x,(R.getD x .one).ok:=fun x=>by
        by_cases hx:x<R.length
        · rw[show R.getD x .one=R[x] by simp[List.getD,hx]];exact hok _ (by simp)
        · rw[show R.getD x .one=.one by simp[List.getD,List.getElem?_eq_none (show R.length<=x by omega)]];exact BJ
      have hmm:∀pre:List Nat,∀n∈pre.map (fun j=>R.getD j .one),n.ok:=fun pre n hn=>by
        obtain⟨j,_,rfl⟩:=List.mem_map.1 hn;exact hms j
      have:=Xi aB s (fun j=>R.getD j .one) R.length (fun pre=>(jO .one (pre.map (fun j=>R.getD j .one))).1) (fun pre=>(jO .one (pre.map (fun j=>R.getD j .one))).2=0) rfl
        (fun p q h=>by rw[List.map_append] at h;exact Uf _ _ _ h) W l4 (by omega) rfl
        (fun V hV=>(RL V hV R 0 hR).mono fun e w' ⟨h,hb⟩=>by
          obtain⟨-,v,he,hown⟩|⟨h, -⟩:=h
          rotate_left
          · exact absurd rfl h
          obtain⟨n,hn⟩:∃n,R.length=n+1:=⟨R.length-1,by omega⟩;rw[hn] at hown⊢;obtain⟨g,cap,rfl,_,h3,_,_,h6⟩:=rq hown;exact⟨⟨g,cap,he,h3,fun j hj i u hu=>by
            have hj':j<R.length:=by omega
            rw[show R.getD j .one=R[j] by simp[List.getD,hj']] at hu;exact h6 _ u (Cs R j R[j] (by simp[hj']) i u hu)⟩,hb⟩)
        (fun pre x h1 h2 V hV=>by
          rw[List.map_append,List.map_singleton] at h2⊢;have ho:=Cv _ _ BJ (hmm pre) h1;rw[Cu _ _ _ h1] at h2⊢;by_cases h3:(thenS (jO .one (pre.map (fun j=>R.getD j .one))).1 (R.getD x .one)).2=0
          · rw[if_pos h3]
            exact Qw (mH ho) (mH (hms x)) (KS ho (hms x) (Ic h3)) V (hE.below hV ai).e3
          · rw[if_neg h3] at h2;cases h2)
        (fun pre x h1 h2 V hV=>by
          rw[List.map_append,List.map_singleton,Cu _ _ _ h1] at h2;have ho:=Cv _ _ BJ (hmm pre) h1;by_cases h3:(thenS (jO .one (pre.map (fun j=>R.getD j .one))).1 (R.getD x .one)).2=0
          · rw[if_pos h3] at h2;exact(h2 rfl).elim
          · rw[if_neg h3] at h2
            refine(Qx (mH ho) (mH (hms x)) (fun y e=>h3 (by rw[(KZ e).2.2])) V (hE.below hV ai).e3).mono fun e w' ⟨⟨v,he,hv⟩,hb⟩=>?_;unfold qx at hv;rw[if_neg (fun e=>e (pK ho)),if_neg (fun e=>e (pK (hms x))),if_neg h3] at hv;obtain⟨_,rfl⟩:=hv;exact⟨he,hb⟩)
      have hr:je s=jO .one R.reverse:=by unfold je;rw[if_pos hc,hRR]
      refine(callsIn_wide.1 this).mono fun e w' ⟨he,hb⟩=>⟨?_,hb⟩;rw[hr];rw[Y5] at he;rcases he with⟨h1,he⟩|⟨h1,he⟩
      · rw[he,h1];rfl
      · have h2:=(G7 R.reverse .one).resolve_left h1
        rw[he,h2];rfl
    · have hR:fP (words s).length (words s) []=([],(mq s).2):=by
        rw[<- hL];exact Prod.ext (by rw[hL];exact G8 _ _ _ (by rw[<- hL];exact hc)) rfl
      have:=KQ s (eA aT aB aS (mq s).2) W (fun V hV=>(RL V hV [] _ hR).mono fun e w' ⟨h,hb⟩=>⟨(h.resolve_left fun h=>hc h.1).2,hb⟩);have hr:je s=(.zero,(mq s).2):=by unfold je;rw[if_neg hc]
      refine(callsIn_wide.1 this).mono fun e w' ⟨he,hb⟩=>⟨?_,hb⟩;rw[he,hr,er0,if_neg hc]
end
end Go.Proofs.YtecneflbncjhpaaGreatDoor

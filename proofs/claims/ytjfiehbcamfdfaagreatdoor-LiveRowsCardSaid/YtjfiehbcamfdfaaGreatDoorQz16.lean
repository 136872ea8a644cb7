/- Parts of the proof. -/
import Derived.Test.YtjfiehbcamfdfaaGreatDoorQz15
namespace Go.Proofs.YtjfiehbcamfdfaaGreatDoor
open Go.Proofs.Tryz
set_option maxHeartbeats 32000000
section
open Go.RowKit Go.Shelf
attribute [local go_sem] Oper.semAt_some
structure fM (E A n₀:Nat)(W W':ag):Prop where
 block:∀k,k<n₀->k≠E->k≠A->W'.heap[k]? =W.heap[k]?
theorem fM.refl (E A n₀:Nat)(W:ag):fM E A n₀ W W:=⟨fun _ _ _ _=>rfl⟩
theorem fM.trans {E A n₀:Nat}{X Y Z:ag}(h:fM E A n₀ X Y)(k:fM E A n₀ Y Z):fM E A n₀ X Z:=⟨fun i h1 h2 h3=>(k.block i h1 h2 h3).trans (h.block i h1 h2 h3)⟩
theorem fM.of_below {E A n₀:Nat}{X Y:ag}(h:Below X.heap.size X Y)(hn:n₀<=X.heap.size):fM E A n₀ X Y:=⟨fun i h1 _ _=>h.block i (by omega)⟩
theorem fM.abg {E A n₀:Nat}{X Y:ag}(h:fM E A n₀ X Y)(o:Nat)(v:ah):fM E A n₀ X (Y.setCell ⟨E,o,none⟩ v):=⟨fun i h1 h2 h3=>(Below.heap_setCell _ _ _ i h2).trans (h.block i h1 h2 h3)⟩
theorem fM.a7n {E A n₀:Nat}{X:ag}:∀(vs:List ah) (o:Nat) {Y:ag},fM E A n₀ X Y->fM E A n₀ X (put Y A o vs)
 |[],_,_,h=>h
 |_::vs,o,_,h=>fM.a7n vs (o+1) ⟨fun i h1 h2 h3=>(Below.heap_setCell _ _ _ i h3).trans (h.block i h1 h2 h3)⟩
theorem fM.put {E A n₀:Nat}(W:ag)(l:Nat)(o':Obj)(hl:n₀<=l):fM E A n₀ W (W.putObj l o'):=⟨fun i h1 _ _=>World.putObj_heap_other (by omega)⟩
theorem kK {α:Type}{o:Option α}{v:α}(h:o=some v):o.isSome=true:=by rw[h];rfl
theorem kM:∀(vs:List ah) (o R:Nat) (W:ag),KeepsOthers W (put W R o vs)
 |[],_,_,W=>KeepsOthers.refl W
 |_::vs,o,R,W=>(KeepsOthers.setCell W _ _).trans (kM vs (o+1) R _)
def bK (W:ag)(R:Nat)(vs:List ah):Prop:=vs.length=12/\(∀i u,vs[i]? =some u->W.cell? (ak R i)=some u)/\(∀i,i<12->W.frozen? ⟨R,i,none⟩=false)
theorem bK.twelve {w:ag}{R:Nat}{a0 a1 a2 a3 a4 a5 a6 a7 a8 a9 OO OP:ah}(h:bK w R [a0,a1,a2,a3,a4,a5,a6,a7,a8,a9,OO,OP]):w.cell? (ak R 0)=some a0/\w.cell? (ak R 1)=some a1/\w.cell? (ak R 2)=some a2/\w.cell? (ak R 3)=some a3/\w.cell? (ak R 4)=some a4/\w.cell? (ak R 5)=some a5/\w.cell? (ak R 6)=some a6/\w.cell? (ak R 7)=some a7/\w.cell? (ak R 8)=some a8/\w.cell? (ak R 9)=some a9/\w.cell? (ak R 10)=some OO/\w.cell? (ak R 11)=some OP:=⟨h.2.1 0 _ rfl,h.2.1 1 _ rfl,h.2.1 2 _ rfl,h.2.1 3 _ rfl,h.2.1 4 _ rfl,h.2.1 5 _ rfl,h.2.1 6 _ rfl,h.2.1 7 _ rfl,h.2.1 8 _ rfl,h.2.1 9 _ rfl,h.2.1 10 _ rfl,h.2.1 11 _ rfl⟩
theorem bK.six {w:ag}{R:Nat}{a0 a1 a2 a3 a4 a5 a6 a7 a8 a9 OO OP:ah}(h:bK w R [a0,a1,a2,a3,a4,a5,a6,a7,a8,a9,OO,OP]):w.cell? (ak R 0)=some a0/\w.frozen? ⟨R,0,none⟩=false/\w.cell? (ak R 1)=some a1/\w.frozen? ⟨R,1,none⟩=false/\w.cell? (ak R 2)=some a2/\w.frozen? ⟨R,2,none⟩=false/\w.cell? (ak R 3)=some a3/\w.frozen? ⟨R,3,none⟩=false/\w.cell? (ak R 4)=some a4/\w.frozen? ⟨R,4,none⟩=false/\w.cell? (ak R 5)=some a5/\w.frozen? ⟨R,5,none⟩=false/\w.cell? (ak R 6)=some a6/\w.frozen? ⟨R,6,none⟩=false/\w.cell? (ak R 7)=some a7/\w.frozen? ⟨R,7,none⟩=false/\w.cell? (ak R 8)=some a8/\w.frozen? ⟨R,8,none⟩=false/\w.cell? (ak R 9)=some a9/\w.frozen? ⟨R,9,none⟩=false/\w.cell? (ak R 10)=some OO/\w.frozen? ⟨R,10,none⟩=false/\w.cell? (ak R 11)=some OP/\w.frozen? ⟨R,11,none⟩=false:=⟨h.2.1 0 _ rfl,h.2.2 0 (by omega),h.2.1 1 _ rfl,h.2.2 1 (by omega),h.2.1 2 _ rfl,h.2.2 2 (by omega),h.2.1 3 _ rfl,h.2.2 3 (by omega),h.2.1 4 _ rfl,h.2.2 4 (by omega),h.2.1 5 _ rfl,h.2.2 5 (by omega),h.2.1 6 _ rfl,h.2.2 6 (by omega),h.2.1 7 _ rfl,h.2.2 7 (by omega),h.2.1 8 _ rfl,h.2.2 8 (by omega),h.2.1 9 _ rfl,h.2.2 9 (by omega),h.2.1 10 _ rfl,h.2.2 10 (by omega),h.2.1 11 _ rfl,h.2.2 11 (by omega)⟩
theorem bK.uh {W:ag}{R:Nat}{vs:List ah}{t:TypeId}(h:dH W R vs.toArray t)(hl:vs.length=12):bK W R vs:=
 ⟨hl,fun i u hu=>h.cell i u (by simpa using hu),fun i hi=>h.dD i vs[i] (by simp[hl▸hi])⟩
theorem jI {p:Addr}:∀(vs:List ah) (o R:Nat) (W:ag),(put W R o vs).frozen? p=W.frozen? p
 |[],_,_,_=>rfl
 |_::vs,o,R,_=>(jI vs (o+1) R _).trans (World.frozen?_setCell _ _ _ _)
theorem bK.put {W:ag}{R:Nat}{vs us:List ah}(h:bK W R vs)(hl:us.length=12):bK (put W R 0 us) R us:=by
 refine⟨hl,fun i u hu=>?_,fun i hi=>(jI us 0 R W).trans (h.2.2 i hi)⟩;have:=G7 (R:=R) us 0 W (fun i hi=>by rw[Nat.zero_add,h.2.1 i (vs[i]'(by rw[h.1];omega)) (by simp)];rfl) i u hu;rwa[Nat.zero_add] at this
theorem bK.jJ {W:ag}{R E o:Nat}{vs:List ah}{v:ah}(h:bK W R vs)(hE:R≠E):bK (W.setCell ⟨E,o,none⟩ v) R vs:=
 ⟨h.1,fun i u hu=>(World.cell?_setCell_far _ _ _ _ (fun e=>hE e.symm)).trans (h.2.1 i u hu),fun i hi=>(World.frozen?_setCell _ _ _ _).trans (h.2.2 i hi)⟩
theorem bK.EH {W:ag}{R R':Nat}{vs us:List ah}(h:bK W R vs)(hE:R≠R'):bK (Go.Proofs.YtjfiehbcamfdfaaGreatDoor.put W R' 0 us) R vs:=
 ⟨h.1,fun i u hu=>(dP (p:=⟨R,i,none⟩) hE us 0 W).trans (h.2.1 i u hu),fun i hi=>(jI us 0 R' W).trans (h.2.2 i hi)⟩
theorem bK.kept {W W':ag}{R:Nat}{vs:List ah}{row:Option Nat}(h:bK W R vs)(hg:W.grownBy W' row)(hr:∀r,row=some r->∃o:Obj,W.heap[r]? =some o/\o.isCells=false):bK W' R vs:=
 ⟨h.1,fun i u hu=>cell_kept (h.2.1 i u hu) hg hr,fun i hi=>by
  have:=h.2.1 i (vs[i]'(by rw[h.1];omega)) (by simp);exact(frozen_kept this hg hr).trans (h.2.2 i hi)⟩
theorem bK.below {W W':ag}{R:Nat}{vs:List ah}(h:bK W R vs)(hb:Below W.heap.size W W'):bK W' R vs:=
 ⟨h.1,fun i u hu=>(hb.cell (aC (h.2.1 i u hu))).trans (h.2.1 i u hu),fun i hi=>by
  have:=h.2.1 i (vs[i]'(by rw[h.1];omega)) (by simp);exact(hb.frozen (p:=⟨R,i,none⟩) (aC this)).trans (h.2.2 i hi)⟩
end
section
open Go.RowKit
structure E4 (aT aB aS:Addr)(w:ag):Prop where
 e3:E3 aB aS aB w
 t:w.cell? (ak 1 0)=some (.iface 390 (.pointer (some aT)))
theorem E4.below {aT aB aS:Addr}{w w':ag}{B:Nat}(h:E4 aT aB aS w)(hb:Below B w w')(hB:w.heap.size<=B):E4 aT aB aS w':=⟨h.e3.below hb hB,(hb.cell (Nat.lt_of_lt_of_le (aC h.t) hB)).trans h.t⟩
theorem lg {m:Mv}(h:m.ok):m.i64:=⟨iV h.1,iV h.2.1,iV h.2.2.1,iV h.2.2.2.1,iV h.2.2.2.2.1,iV h.2.2.2.2.2⟩
end
section
open Go.RowKit
attribute [local go_sem] fT
def Kd.f:Kd->Nat
 | .move=>266
 | .scale=>267
 | .turn=>268
 | .skew=>269
theorem Kd.n_pos (kd:Kd):1<=kd.n/\kd.n<=2:=by cases kd<;>exact⟨by decide,by decide⟩
def lenOf:ah->Nat
 | .slice _ n _=>n
 |_=>0
abbrev uj (m:Mv):List ah:=[Value.int .i64 m.a.n,aa m.a.d,aa m.b.n,aa m.b.d,aa m.c.n,aa m.c.d,aa m.d.n,aa m.d.d,aa m.e.n,aa m.e.d,aa m.f.n,aa m.f.d]
def jU (l:List Mv):List ah:=l.flatMap uj
theorem yC (l:List Mv)(m:Mv):jU (l++[m])=jU l++uj m:=by simp[jU]
theorem Wn {w:ag}{base:Nat}{e:TypeId}{size n:Nat}{v:ah}{xs:List ah}(h:w.ownsRow base e size v n xs):∀k,v.ownBlock=some k->k<w.heap.size:=by
 obtain⟨_,h2⟩:=h;rcases h2 with⟨rfl,_⟩|⟨g,cap,cur,rfl,_,h5,_⟩
 ·intro k hk;cases hk
 ·intro k hk;simp only[Value.ownBlock] at hk;cases hk;exact(Array.getElem?_eq_some_iff.1 h5).1
theorem dH.drew {w:ag}{R:Nat}{cs:Array ah}{t:TypeId}(h:dH w R cs t):dH w.drew R cs t:=⟨h.h⟩
theorem drop_cons {ws:List aD}{j N r:Nat}(h:ws.length=N)(hj:j+(r+1)=N):∃k,ws[j]? =some k/\ws.drop j=k::ws.drop (j+1):=by
 have hlt:j<ws.length:=by omega
 exact⟨ws[j],by simp[hlt],List.drop_eq_getElem_cons hlt⟩
theorem fU {w:ag}{b j:Nat}{ws:List aD}{t:TypeId}{k:aD}(h:dH w b (ws.map Value.string).toArray t)(hk:ws[j]? =some k):w.cell? (ak b j)=some (.string k):=h.cell j _ (by simp[hk])
def JH (k:aD)(kd:Kd):Prop:=∀V,ax 239 #[.string k] V fun e w'=>(∃B,V.heap.size<=B/\e=.returned (.tuple #[.agg #[aa kd.n,.func (.func 284) #[] #[ay B]],.bool true])/\w'.cell? (ak B 0)=some (.func (.func kd.f) #[] #[]))/\Below V.heap.size V w'
def Wo (W:ag)(ws:List aD)(kd:Kd):Prop:=∀V o B cap m,Below W.heap.size W V->dH V W.heap.size (ws.map Value.string).toArray 9->V.cell? (ak B 0)=some (.func (.func kd.f) #[] #[])->o+kd.n<=ws.length->Ev kd (ws.drop o)=(m,0)->
 ax 284 #[.slice (some ⟨W.heap.size,o,none⟩) kd.n cap,ay B] V fun e w'=>e=.returned (.tuple #[mv m,.nilIface])/\Below V.heap.size V w'
def Wp (W:ag)(ws:List aD):Prop:=∀V o cap m,Below W.heap.size W V->dH V W.heap.size (ws.map Value.string).toArray 9->o+1<=ws.length->Ev .turn (ws.drop o)=(m,0)->
 ax 268 #[.slice (some ⟨W.heap.size,o,none⟩) 1 cap] V fun e w'=>e=.returned (.tuple #[mv m,.nilIface])/\Below V.heap.size V w'
end
section
open Go.RowKit Go.Shelf
set_option maxRecDepth 100000
attribute [local go_sem] Oper.semAt_some
theorem Wq (F:Fence)(n:Nat)(hf:F.fn 240)(hro:F.round=none)(hn:1<=n)(l Bl g len cap:Nat)(ms:Nat->Mv)(hlen:0<len)(hlen':len<=1000)(Kp:ag->ag->Prop)(hKr:∀A,Kp A A)(hKt:∀A B C,Kp A B->Kp B C->Kp A C)(hKl:∀A B,Kp A B->B.cell? (ak Bl 0)=A.cell? (ak Bl 0))(hKg:∀A B,Kp A B->∀o,B.cell? (ak g o)=A.cell? (ak g o))(J Jx:List Nat->ag->Prop)
    (hY:∀pre x W,J pre W->pre.length<len->YieldAt F (n-1) prog l #[aa (x:Nat),.agg (mA (ms x))] W fun e W'=>
      (e=.returned (.bool true)/\J (pre++[x]) W'/\Kp W W')\/(e=.returned (.bool false)/\Jx (pre++[x]) W'))
    (W:ag) (hBl:W.cell? (ak Bl 0)=some (.slice (some ⟨g,0,none⟩) len cap))
    (hc:∀j,j<len->∀i u,(mL (ms j))[i]? =some u->W.cell? (ak g (j*12+i))=some u) (h0:J [] W):
    CallsIn F n prog 240 #[.func (.yield l) #[] #[],ay Bl] W fun e W'=>(∃v,e=.returned v)/\
      ((∃ys,ys=aX len/\J ys W')\/(∃pre,pre<+:aX len/\Jx pre W')):=by
  refine callsIn_of_wp func240 rfl hf ?_ hro;simp only[ntmps240,List.size_toArray,List.length_cons,List.length_nil,Nat.reduceAdd,Nat.reduceSub,Array.replicate_succ,Array.replicate_zero,List.push_toArray,List.append_toArray,List.nil_append,List.cons_append];have hl1:IntKind.i64.wrap ((len:Int)-1)=((len-1:Nat):Int):=by rw[i64_in (by omega) (by omega)];omega
  gi_wp2
  gi_loopw [3] (fun i wr=>((∃j:Nat,j<len/\i=aa j/\J (iU len j) wr)\/(i=aa (-1)/\J (aX len) wr))/\Kp W wr)
    (fun i _=>(intOf i+1).toNat)
  case atStart=>
    refine⟨.inl ⟨len-1,by omega,?_,?_⟩,hKr _⟩
    · congr 1
    · rw[show iU len (len-1)=[] by simp[iU]];exact h0
  case round=>
    obtain⟨hcase,hnx⟩:=hrel;rcases hcase with⟨j,hj,rfl,hJs⟩|⟨rfl,hJs⟩
    · have cl:=(hKl _ _ hnx).trans hBl
      have hcj:=fun i u h=>(hKg _ _ hnx (j*12+i)).trans (hc j hj i u h);obtain⟨m0,m1,m2,m3,m4,m5,m6,m7,m8,m9,m10,m11⟩:=And.intro (hcj 0 _ rfl) (And.intro (hcj 1 _ rfl) (And.intro (hcj 2 _ rfl) (And.intro (hcj 3 _ rfl) (And.intro (hcj 4 _ rfl) (And.intro (hcj 5 _ rfl) (And.intro (hcj 6 _ rfl) (And.intro (hcj 7 _ rfl) (And.intro (hcj 8 _ rfl) (And.intro (hcj 9 _ rfl) (And.intro (hcj 10 _ rfl) (hcj 11 _ rfl)))))))))));clear hcj;simp only[Nat.add_zero] at m0;obtain⟨fn,tmps,assign,body,hy,hR⟩:=hY _ j wr hJs (by rw[JG];omega)
      gi_wp2
      refine hR.mono ?_;rintro e W3 (⟨rfl,hJ3,hk3⟩|⟨rfl,hJx3⟩)
      · gi_wp2
        go_roundw
        case rel=>
          refine⟨?_,hKt _ _ _ hnx hk3⟩;cases j with
          |zero=>exact .inr ⟨by simp,by rw[<- Ga hlen];exact hJ3⟩
          |succ j=>exact .inl ⟨j,by omega,by simp,by rw[<- G9 hj];exact hJ3⟩
        case measure=>simp[intOf]
      · gi_wp2
        refine bodyPost_ret (results_none rfl _ _ _) rfl ?_;exact⟨⟨_,rfl⟩,.inr ⟨_,Bi hj,hJx3⟩⟩
    · gi_wp2
      go_end0
      exact⟨⟨_,rfl⟩,.inl ⟨_,rfl,hJs⟩⟩
end
section
open Go.RowKit
theorem a7o (b o cap B:Nat)(s1:aD)(x1:Fr)(r:Mv)(W:ag)(hB:W.cell? (ak B 0)=some (.func (.func 269) #[] #[]))(h1:W.cell? (ak b o)=some (.string s1))
  (R1:∀V,Below W.heap.size W V->ax 232 #[.string s1] V fun e w'=>e=.returned (.tuple #[.agg #[aa x1.n,aa x1.d],.nilIface])/\Below V.heap.size V w')
  (HOW:∀V g c,Below W.heap.size W V->V.cell? (ak g 0)=some (aa x1.n)->V.cell? (ak g 1)=some (aa x1.d)->ax 269 #[.slice (some ⟨g,0,none⟩) 1 c] V fun e w'=>e=.returned (mv r)/\Below V.heap.size V w'):
  ax 284 #[.slice (some ⟨b,o,none⟩) 1 cap,ay B] W fun e w'=>e=.returned (.tuple #[mv r,.nilIface])/\Below W.heap.size W w':=by
 have L0:=(Below.refl W.heap.size W).alloc ai (.cells zA 129);have B0:=dH.new W zA 129;have g1:=fun o=>au o h1;obtain⟨i0,hi,hz0,hz1,hz2⟩:=info_parts Ar;go_enter func284,ntmps284;go_wp2;refine wp_loop_rounds 2 ?_;rw[rounds_succ];go_wp2_with(first|(at_builtin;refine wpList_append_own_at _ rfl _ _ 322 rfl (W.heap.size+1) 127 i0 (.agg #[aa 0,aa 0]) 2 16 underlying322 hi hz0 hz1 hz2 rfl (by decide) (.slice none 0 0) 0 [] rfl O1 ⟨w1.heap.size+1,0,none⟩ 1 1 [aa x1.n,aa x1.d] rfl rfl (FL (by simp)) ZK (by unfold maxLen;omega) (by omega) (by simp;omega) ?_;intro v1 V1 hown1 hgrow1 _ a1K;have L2:=((L1.alloc (by omega) _).alloc (by simp;omega) _).grown hgrow1 (by simp;omega) (fun k e=>by simp[Value.ownBlock] at e);have B2:=((B1.alloc _).alloc _).grown hgrow1 (by simp[Value.ownBlock]);have z1:=hgrow1.size;simp only[World.size_alloc] at z1;obtain⟨g,c2,rfl,hg1,hg2,hg3,hg4,hg5⟩:=qp hown1;have gB:=(L2.cell (p:=⟨B,0,none⟩) (aC hB)).trans hB)|(go_at_call_of 232 s1;refine(R1 _ L0).mono ?_;rintro e w1 ⟨rfl,hb1⟩;have Mj:=hb1.size;simp only[World.size_alloc] at Mj;have L1:=(L0.trans (hb1.mono (by simp)));have B1:=B0.below hb1 ai;have O1:((w1.alloc (.cells #[aa x1.n,aa x1.d] 127)).alloc (.cells #[aa x1.n,aa x1.d] 127)).ownsRow (W.heap.size+1) 127 2 (.slice none 0 0) 0 []:=World.ownsRow_nil _ _ _ _));rw[rounds_succ];go_wp2_with((go_at_call 269;refine(HOW _ g c2 L2 (hg5 0 _ rfl) (hg5 1 _ rfl)).mono ?_;rintro e w5 ⟨rfl,hb5⟩;have sz5:=hb5.size;have B5:=B2.below hb5 ai;obtain⟨oV,El,oZ,Em,pg,Eo,pz,Ep,uC,Iy,uD,Iz,uF,IG,uG,II,uH,IJ,uI,IK,je,qh,jf,qi⟩:=B5.six));refine bodyPost_ret (v:=.tuple #[mv r,.nilIface]) (by simp[results,results284,go_sem,oV,oZ,pg,pz,uC,uD,uF,uG,uH,uI,je,jf]) rfl ⟨rfl,?_⟩;exact aQ (R:=W.heap.size) ai (mL r) 0 (L2.trans (hb5.mono (by omega)))
theorem Ws {k:aD}{kd:Kd}(h:pE k=some kd)(ht:kd≠.turn):JH k kd:=by
 unfold pE at h;by_cases h1:k=Es
 ·rw[if_pos h1] at h;cases h;subst h1;exact IQ
 ·rw[if_neg h1] at h;by_cases h2:k=wU
  ·rw[if_pos h2] at h;cases h;subst h2;exact Fz
  ·rw[if_neg h2] at h;by_cases h3:k=yj
   ·rw[if_pos h3] at h;cases h;exact(ht rfl).elim
   ·rw[if_neg h3] at h;by_cases h4:k=Et
    ·rw[if_pos h4] at h;cases h;subst h4;exact IU
    ·rw[if_neg h4] at h;cases h
theorem Wt {k:aD}(h:pE k=some .turn):k=yj:=by
 unfold pE at h;by_cases h1:k=Es
 ·rw[if_pos h1] at h;cases h
 ·rw[if_neg h1] at h;by_cases h2:k=wU
  ·rw[if_pos h2] at h;cases h
  ·rw[if_neg h2] at h;by_cases h3:k=yj
   ·exact h3
   ·rw[if_neg h3] at h;by_cases h4:k=Et
    ·rw[if_pos h4] at h;cases h
    ·rw[if_neg h4] at h;cases h
theorem JI {mk:Fr->Fr->Mv}{a b:aD}{m:Mv}(h:ze mk a b=(m,0)):yt a=0/\yt b=0/\m=mk (Eu a) (Eu b):=by
 unfold ze at h;by_cases h1:yt a=0
 ·rw[if_neg (by simp[h1])] at h;by_cases h2:yt b=0
  ·rw[if_neg (by simp[h2])] at h;exact⟨h1,h2,(congrArg Prod.fst h).symm⟩
  ·rw[if_pos h2] at h;exact(h2 (congrArg Prod.snd h)).elim
 ·rw[if_pos h1] at h;exact(h1 (congrArg Prod.snd h)).elim
theorem Wu {mk:Fr->Mv}{a:aD}{m:Mv}(h:GU mk a=(m,0)):yt a=0/\m=mk (Eu a):=by
 unfold GU at h;by_cases h1:yt a=0
 ·rw[if_neg (by simp[h1])] at h;exact⟨h1,(congrArg Prod.fst h).symm⟩
 ·rw[if_pos h1] at h;exact(h1 (congrArg Prod.snd h)).elim
theorem vJ {ws:List aD}{o:Nat}(h:o+2<=ws.length):∃a b r,ws.drop o=a::b::r/\ws[o]? =some a/\ws[o+1]? =some b:=by
 have h1:o<ws.length:=by omega
 have h2:o+1<ws.length:=by omega
 exact⟨ws[o],ws[o+1],ws.drop (o+2),by rw[List.drop_eq_getElem_cons h1,List.drop_eq_getElem_cons h2],by simp[h1],by simp[h2]⟩
theorem drop_one {ws:List aD}{o:Nat}(h:o+1<=ws.length):∃a r,ws.drop o=a::r/\ws[o]? =some a:=by
 have h1:o<ws.length:=by omega
 exact⟨ws[o],ws.drop (o+1),by rw[List.drop_eq_getElem_cons h1],by simp[h1]⟩
theorem rz {aT aB aS:Addr}{a:aD}(hs:a.size<=1000000)(hr:yt a=0)(V:ag)(h:E4 aT aB aS V):
  ax 232 #[.string a] V fun e w'=>e=.returned (.tuple #[.agg #[aa (Eu a).n,aa (Eu a).d],.nilIface])/\Below V.heap.size V w':=by
 have:=qX aT aB aS aB a V h.e3 h.t (by omega);rw[show(rd a.data.toList).c=0 from hr] at this;exact this
theorem jN {ws:List aD}(hs:∀a∈ws,a.size<=1000000){o:Nat}{a:aD}(h:ws[o]? =some a):a.size<=1000000:=hs a (List.mem_of_getElem? h)
theorem Wv {aT aB aS:Addr}{W:ag}(h:E4 aT aB aS W){ws:List aD}(hs:∀a∈ws,a.size<=1000000){kd:Kd}(ht:kd≠.turn):Wo W ws kd:=by
 intro V o B cap m hV hB hf ho hk;have hE:=h.below hV ai;cases kd with
 |turn=>exact(ht rfl).elim
 |move=>
  obtain⟨a,b,r,hd,ha,hb⟩:=vJ ho;rw[hd] at hk;obtain⟨h1,h2,rfl⟩:=JI hk;exact a6O _ (oJ _ _ func266 (by kernel_rfl) (by kernel_rfl)) W.heap.size o cap B a b (Eu a) (Eu b) _ V hf (fU hB ha) (fU hB hb) (fun U hU=>rz (jN hs ha) h1 U (hE.below hU ai)) (fun U hU=>rz (jN hs hb) h2 U (hE.below hU ai))
   (fun U g c hU k0 k1 k2 k3=>Rh g c (Eu a) (Eu b) U k0 k1 k2 k3)
 |scale=>
  obtain⟨a,b,r,hd,ha,hb⟩:=vJ ho;rw[hd] at hk;obtain⟨h1,h2,rfl⟩:=JI hk;exact a6O _ (oJ _ _ func267 (by kernel_rfl) (by kernel_rfl)) W.heap.size o cap B a b (Eu a) (Eu b) _ V hf (fU hB ha) (fU hB hb) (fun U hU=>rz (jN hs ha) h1 U (hE.below hU ai)) (fun U hU=>rz (jN hs hb) h2 U (hE.below hU ai))
   (fun U g c hU k0 k1 k2 k3=>Ri g c (Eu a) (Eu b) U k0 k1 k2 k3)
 |skew=>
  obtain⟨a,r,hd,ha⟩:=drop_one ho;rw[hd] at hk;obtain⟨h1,rfl⟩:=Wu hk;exact a7o W.heap.size o cap B a (Eu a) _ V hf (fU hB ha) (fun U hU=>rz (jN hs ha) h1 U (hE.below hU ai))
   (fun U g c hU k0 k1=>Vy g c (Eu a) U k0 k1)
theorem Ww {W:ag}{ws:List aD}:Wp W ws:=by
 intro V o cap m hV hB ho hk;obtain⟨a,r,hd,ha⟩:=drop_one ho;rw[hd] at hk;have hc:=fU hB ha;change Av a=(m,0) at hk;unfold Av at hk;by_cases h0:a=⟨#[48]⟩
 ·rw[if_pos h0] at hk;cases hk;subst h0;exact vg W.heap.size o cap V _ _ _ (.inl ⟨rfl,rfl,rfl⟩) hc
 ·rw[if_neg h0] at hk;by_cases h1:a=⟨#[49]⟩
  ·rw[if_pos h1] at hk;cases hk;subst h1;exact vg W.heap.size o cap V _ _ _ (.inr (.inl ⟨rfl,rfl,rfl⟩)) hc
  ·rw[if_neg h1] at hk;by_cases h2:a=⟨#[50]⟩
   ·rw[if_pos h2] at hk;cases hk;subst h2;exact vg W.heap.size o cap V _ _ _ (.inr (.inr (.inl ⟨rfl,rfl,rfl⟩))) hc
   ·rw[if_neg h2] at hk;by_cases h3:a=⟨#[51]⟩
    ·rw[if_pos h3] at hk;cases hk;subst h3;exact vg W.heap.size o cap V _ _ _ (.inr (.inr (.inr ⟨rfl,rfl,rfl⟩))) hc
    ·rw[if_neg h3] at hk;cases hk
theorem Bj:∀(R:List Mv) (j:Nat) (m:Mv),R[j]? =some m->∀i u,(uj m)[i]? =some u->(jU R)[j*12+i]? =some u
 |[],_,_,h,_,_,_=>by cases h
 |x::R,0,m,h,i,u,hu=>by
  simp at h;subst h;have hi:i<(uj x).length:=(List.getElem?_eq_some_iff.1 hu).1;show(uj x++jU R)[0*12+i]? =some u;rw[List.getElem?_append_left (by simpa using hi)];simpa using hu
 |x::R,j+1,m,h,i,u,hu=>by
  have:=Bj R j m (by simpa using h) i u hu;show(uj x++jU R)[(j+1)*12+i]? =some u;rw[List.getElem?_append_right (by simp;omega)];rw[show(j+1)*12+i-(uj x).length=j*12+i by simp;omega];exact this
theorem a02 (g o c:Nat)(a:aD)(aT:Addr)(W:ag)(k0:W.cell? (ak g o)=some (.string a))(hT:W.cell? (ak 1 0)=some (.iface 390 (.pointer (some aT))))
  (h0:a≠⟨#[48]⟩) (h1:a≠⟨#[49]⟩) (h2:a≠⟨#[50]⟩) (h3:a≠⟨#[51]⟩):
  ax 268 #[.slice (some ⟨g,o,none⟩) 1 c] W fun e w'=>e=.returned (.tuple #[mv .zero,.iface 390 (.pointer (some aT))])/\Below W.heap.size W w':=by
 have e0:=qw (l:=[48]) h0;have e1:=qw (l:=[49]) h1;have e2:=qw (l:=[50]) h2;have e3:=qw (l:=[51]) h3;have k1:=fun o=>au o k0;clear h0 h1 h2 h3;go_enter func268,ntmps268;go_wp2;have hF:∃U,W.alloc (.cells zA 129)=U/\dH U W.heap.size zA 129/\Below W.heap.size W U:=⟨_,rfl,dH.new W _ _,(Below.refl _ W).alloc ai _⟩;obtain⟨U,hU,B0,L0⟩:=hF;rw[hU];clear hU k1 k0 e0 e1 e2 e3;have cT:=(L0.cell (p:=⟨1,0,none⟩) (aC hT)).trans hT;have lT:=aC hT;simp only at lT;obtain⟨oV,El,oZ,Em,pg,Eo,pz,Ep,uC,Iy,uD,Iz,uF,IG,uG,II,uH,IJ,uI,IK,je,qh,jf,qi⟩:=B0.six;go_region;go_wp2;refine bodyPost_ret (v:=.tuple #[mv .zero,.iface 390 (.pointer (some aT))]) (by simp[results,results268,go_sem,Mv.zero,Fr.zero,oV,oZ,pg,pz,uC,uD,uF,uG,uH,uI,je,jf]) rfl ⟨rfl,?_⟩;exact below_drewN (aQ (R:=W.heap.size) ai zL 0 L0) 1
theorem Py (b o cap B n:Nat)(s1:aD)(a:Addr)(W:ag)(hn:1<=n)(h1:W.cell? (ak b o)=some (.string s1))
  (R1:∀V,Below W.heap.size W V->ax 232 #[.string s1] V fun e w'=>e=.returned (.tuple #[.agg #[aa 0,aa 0],.iface 390 (.pointer (some a))])/\Below V.heap.size V w'):
  ax 284 #[.slice (some ⟨b,o,none⟩) n cap,ay B] W fun e w'=>e=.returned (.tuple #[mv .zero,.iface 390 (.pointer (some a))])/\Below W.heap.size W w':=by
 have L0:=(Below.refl W.heap.size W).alloc ai (.cells zA 129);have B0:=dH.new W zA 129;have g1:=fun o=>au o h1;go_enter func284,ntmps284;go_wp2;refine wp_loop_rounds 1 ?_;rw[rounds_succ];go_wp2_with((go_at_call_of 232 s1;refine(R1 _ L0).mono ?_;rintro e w1 ⟨rfl,hb1⟩;have Mj:=hb1.size;simp only[World.size_alloc] at Mj;have L1:=(L0.trans (hb1.mono (by simp)));have B1:=B0.below hb1 ai;obtain⟨oV,El,oZ,Em,pg,Eo,pz,Ep,uC,Iy,uD,Iz,uF,IG,uG,II,uH,IJ,uI,IK,je,qh,jf,qi⟩:=B1.Vi));refine bodyPost_ret (v:=.tuple #[mv .zero,.iface 390 (.pointer (some a))]) (by simp[results,results284,go_sem,Mv.zero,Fr.zero,oV,oZ,pg,pz,uC,uD,uF,uG,uH,uI,je,jf]) rfl ⟨rfl,?_⟩;exact aQ (R:=W.heap.size) ai zL 0 (L1.alloc L1.size _)
theorem a03 (b o cap B:Nat)(s1 s2:aD)(x1:Fr)(a:Addr)(W:ag)(h1:W.cell? (ak b o)=some (.string s1))(h2:W.cell? (ak b (o+1))=some (.string s2))
  (R1:∀V,Below W.heap.size W V->ax 232 #[.string s1] V fun e w'=>e=.returned (.tuple #[.agg #[aa x1.n,aa x1.d],.nilIface])/\Below V.heap.size V w')
  (R2:∀V,Below W.heap.size W V->ax 232 #[.string s2] V fun e w'=>e=.returned (.tuple #[.agg #[aa 0,aa 0],.iface 390 (.pointer (some a))])/\Below V.heap.size V w'):
  ax 284 #[.slice (some ⟨b,o,none⟩) 2 cap,ay B] W fun e w'=>e=.returned (.tuple #[mv .zero,.iface 390 (.pointer (some a))])/\Below W.heap.size W w':=by
 have L0:=(Below.refl W.heap.size W).alloc ai (.cells zA 129);have B0:=dH.new W zA 129;have g1:=fun o=>au o h1;obtain⟨i0,hi,hz0,hz1,hz2⟩:=info_parts Ar;go_enter func284,ntmps284;go_wp2;refine wp_loop_rounds 2 ?_;rw[rounds_succ];go_wp2_with(first|(at_builtin;refine wpList_append_own_at _ rfl _ _ 322 rfl (W.heap.size+1) 127 i0 (.agg #[aa 0,aa 0]) 2 16 underlying322 hi hz0 hz1 hz2 rfl (by decide) (.slice none 0 0) 0 [] rfl O1 ⟨w1.heap.size+1,0,none⟩ 1 1 [aa x1.n,aa x1.d] rfl rfl (FL (by simp)) ZK (by unfold maxLen;omega) (by omega) (by simp;omega) ?_;intro v1 V1 hown1 hgrow1 _ a1K;have L2:=((L1.alloc (by omega) _).alloc (by simp;omega) _).grown hgrow1 (by simp;omega) (fun k e=>by simp[Value.ownBlock] at e);have B2:=((B1.alloc _).alloc _).grown hgrow1 (by simp[Value.ownBlock]);have z1:=hgrow1.size;simp only[World.size_alloc] at z1;have g2:=(L2.cell (p:=⟨b,o+1,none⟩) (aC h2)).trans h2)|(go_at_call_of 232 s1;refine(R1 _ L0).mono ?_;rintro e w1 ⟨rfl,hb1⟩;have Mj:=hb1.size;simp only[World.size_alloc] at Mj;have L1:=(L0.trans (hb1.mono (by simp)));have B1:=B0.below hb1 ai;have O1:((w1.alloc (.cells #[aa x1.n,aa x1.d] 127)).alloc (.cells #[aa x1.n,aa x1.d] 127)).ownsRow (W.heap.size+1) 127 2 (.slice none 0 0) 0 []:=World.ownsRow_nil _ _ _ _));rw[rounds_succ];go_wp2_with((go_at_call_of 232 s2;refine(R2 _ L2).mono ?_;rintro e w2 ⟨rfl,hb2⟩;have sz2:=hb2.size;have L3:=L2.trans (hb2.mono (by omega));have B3:=B2.below hb2 ai;obtain⟨oV,El,oZ,Em,pg,Eo,pz,Ep,uC,Iy,uD,Iz,uF,IG,uG,II,uH,IJ,uI,IK,je,qh,jf,qi⟩:=B3.Vi));refine bodyPost_ret (v:=.tuple #[mv .zero,.iface 390 (.pointer (some a))]) (by simp[results,results284,go_sem,Mv.zero,Fr.zero,oV,oZ,pg,pz,uC,uD,uF,uG,uH,uI,je,jf]) rfl ⟨rfl,?_⟩;exact aQ (R:=W.heap.size) ai zL 0 (L3.alloc L3.size _)
def eA (aT aB aS:Addr)(c:Nat):Addr:=if c=1 then aT else if c=2 then aB else aS
theorem a3m {aT aB aS:Addr}{c:Nat}(h:c=1\/c=2\/c=3):Lr aT aB aS aB c=.iface 390 (.pointer (some (eA aT aB aS c))):=by
 rcases h with rfl|rfl|rfl<;>rfl
theorem Bn (l:List UInt8):(rd l).c=0\/((rd l).c=1\/(rd l).c=2\/(rd l).c=3)/\(rd l).n=0/\(rd l).d=0:=by
 have hck:∀n d,(ck n d).c=0\/((ck n d).c=1\/(ck n d).c=2\/(ck n d).c=3)/\(ck n d).n=0/\(ck n d).d=0:=fun n d=>by
  unfold ck;split
  ·exact .inl rfl
  ·rename_i h;have:=eu n d;exact .inr ⟨by simp only;omega,rfl,rfl⟩
 unfold rd;split
 ·exact .inr ⟨.inl rfl,rfl,rfl⟩
 ·split
  ·exact hck _ _
  ·split
   ·exact hck _ _
   ·exact .inr ⟨.inl rfl,rfl,rfl⟩
theorem Gb {aT aB aS:Addr}{a:aD}(hs:a.size<=1000000)(hr:yt a≠0)(V:ag)(h:E4 aT aB aS V):
  ax 232 #[.string a] V fun e w'=>e=.returned (.tuple #[.agg #[aa 0,aa 0],.iface 390 (.pointer (some (eA aT aB aS (yt a))))])/\Below V.heap.size V w':=by
 have:=qX aT aB aS aB a V h.e3 h.t (by omega);rcases Bn a.data.toList with h0|⟨h1,h2,h3⟩
 ·exact(hr h0).elim
 ·rw[h2,h3,a3m h1] at this;exact this
def ML (aT aB aS:Addr)(W:ag)(ws:List aD)(kd:Kd):Prop:=∀V o B cap c,Below W.heap.size W V->dH V W.heap.size (ws.map Value.string).toArray 9->o+kd.n<=ws.length->(Ev kd (ws.drop o)).2=c->c≠0->
 ax 284 #[.slice (some ⟨W.heap.size,o,none⟩) kd.n cap,ay B] V fun e w'=>e=.returned (.tuple #[mv .zero,.iface 390 (.pointer (some (eA aT aB aS c)))])/\Below V.heap.size V w'
def MM (aT aB aS:Addr)(W:ag)(ws:List aD):Prop:=∀V o cap c,Below W.heap.size W V->dH V W.heap.size (ws.map Value.string).toArray 9->o+1<=ws.length->(Ev .turn (ws.drop o)).2=c->c≠0->
 ax 268 #[.slice (some ⟨W.heap.size,o,none⟩) 1 cap] V fun e w'=>e=.returned (.tuple #[mv .zero,.iface 390 (.pointer (some (eA aT aB aS c)))])/\Below V.heap.size V w'
theorem Wx {aT aB aS:Addr}{V:ag}(hE:E4 aT aB aS V){mk:Fr->Fr->Mv}{a b:aD}{w0 o B cap c:Nat}(ha:a.size<=1000000)(hb:b.size<=1000000)(k1:V.cell? (ak w0 o)=some (.string a))(k2:V.cell? (ak w0 (o+1))=some (.string b))(h:(ze mk a b).2=c)(hc:c≠0):
  ax 284 #[.slice (some ⟨w0,o,none⟩) 2 cap,ay B] V fun e w'=>e=.returned (.tuple #[mv .zero,.iface 390 (.pointer (some (eA aT aB aS c)))])/\Below V.heap.size V w':=by
 unfold ze at h;by_cases h1:yt a=0
 ·rw[if_neg (by simp[h1])] at h;by_cases h2:yt b=0
  ·rw[if_neg (by simp[h2])] at h;exact(hc h.symm).elim
  ·rw[if_pos h2] at h;subst h;exact a03 w0 o cap B a b (Eu a) _ V k1 k2 (fun U hU=>rz ha h1 U (hE.below hU ai)) (fun U hU=>Gb hb h2 U (hE.below hU ai))
 ·rw[if_pos h1] at h;subst h;exact Py w0 o cap B 2 a _ V (by decide) k1 (fun U hU=>Gb ha h1 U (hE.below hU ai))
theorem RJ {aT aB aS:Addr}{W:ag}(h:E4 aT aB aS W){ws:List aD}(hs:∀a∈ws,a.size<=1000000){kd:Kd}(ht:kd≠.turn):ML aT aB aS W ws kd:=by
 intro V o B cap c hV hB ho hk hc;have hE:=h.below hV ai;cases kd with
 |turn=>exact(ht rfl).elim
 |move=>
  obtain⟨a,b,r,hd,ha,hb⟩:=vJ ho;rw[hd] at hk;exact Wx hE (jN hs ha) (jN hs hb) (fU hB ha) (fU hB hb) hk hc
 |scale=>
  obtain⟨a,b,r,hd,ha,hb⟩:=vJ ho;rw[hd] at hk;exact Wx hE (jN hs ha) (jN hs hb) (fU hB ha) (fU hB hb) hk hc
 |skew=>
  obtain⟨a,r,hd,ha⟩:=drop_one ho;rw[hd] at hk;change(GU Mv.skew a).2=c at hk;unfold GU at hk;by_cases h1:yt a=0
  ·rw[if_neg (by simp[h1])] at hk;exact(hc hk.symm).elim
  ·rw[if_pos h1] at hk;subst hk;exact Py W.heap.size o cap B 1 a _ V (by decide) (fU hB ha) (fun U hU=>Gb (jN hs ha) h1 U (hE.below hU ai))
theorem RN {aT aB aS:Addr}{W:ag}(h:E4 aT aB aS W){ws:List aD}:MM aT aB aS W ws:=by
 intro V o cap c hV hB ho hk hc;have hE:=h.below hV ai;obtain⟨a,r,hd,ha⟩:=drop_one ho;rw[hd] at hk;have hw:=fU hB ha;change(Av a).2=c at hk;unfold Av at hk;by_cases h0:a=⟨#[48]⟩
 ·rw[if_pos h0] at hk;exact(hc hk.symm).elim
 ·rw[if_neg h0] at hk;by_cases h1:a=⟨#[49]⟩
  ·rw[if_pos h1] at hk;exact(hc hk.symm).elim
  ·rw[if_neg h1] at hk;by_cases h2:a=⟨#[50]⟩
   ·rw[if_pos h2] at hk;exact(hc hk.symm).elim
   ·rw[if_neg h2] at hk;by_cases h3:a=⟨#[51]⟩
    ·rw[if_pos h3] at hk;exact(hc hk.symm).elim
    ·rw[if_neg h3] at hk;subst hk;exact a02 W.heap.size o cap a aT V hw hE.t h0 h1 h2 h3
end
section
open Go.RowKit
set_option maxRecDepth 20000
attribute [local go_sem] fT l7
theorem RQ {f:Nat}{k:aD}{ws:List aD}{acc R:List Mv}{c:Nat}(h:eU f (k::ws) acc=(R,c))(hf:1<=f):
    (pE k=none/\c=1)\/(∃kd,pE k=some kd/\ws.length<kd.n/\c=1)\/(∃kd,pE k=some kd/\kd.n<=ws.length/\(Ev kd ws).2=c/\c≠0)\/
      (∃f' kd m,f=f'+1/\pE k=some kd/\kd.n<=ws.length/\Ev kd ws=(m,0)/\eU f' (ws.drop kd.n) (acc++[m])=(R,c)):=by
  cases f with
  |zero=>omega
  |succ f=>
    unfold eU at h;cases hk:pE k with
    |none=>rw[hk] at h;exact .inl ⟨rfl,(congrArg Prod.snd h).symm⟩
    |some kd=>
      rw[hk] at h;simp only at h;by_cases hl:ws.length<kd.n
      · rw[if_pos hl] at h;exact .inr (.inl ⟨kd,rfl,hl,(congrArg Prod.snd h).symm⟩)
      · rw[if_neg hl] at h
        by_cases h0:(Ev kd ws).2=0
        · rw[if_pos h0] at h;exact .inr (.inr (.inr ⟨f,kd,_,rfl,rfl,by omega,Prod.ext rfl h0,h⟩))
        · rw[if_neg h0] at h
          have h1:(Ev kd ws).2=c:=congrArg Prod.snd h;exact .inr (.inr (.inl ⟨kd,rfl,by omega,h1,h1▸h0⟩))
theorem a04 {k:aD}(h:pE k=none):k≠Es/\k≠wU/\k≠yj/\k≠Et:=by
  unfold pE at h;refine⟨fun e=>?_,fun e=>?_,fun e=>?_,fun e=>?_⟩
  · rw[if_pos e] at h;cases h
  all_goals
    subst e;revert h;decide+kernel
theorem Gc (aT aB aS:Addr)(s:aD)(ws:List aD)(N:Nat)(R:List Mv)(c:Nat)(W:ag)(hE:E4 aT aB aS W)(hs:s.size<4294967281)(hne:s.toList.isEmpty=false)(hN:Lib.countB s ⟨#[32]⟩+1=N)(hw:Lib.splitB ⟨#[32]⟩ 0 (Lib.countB s ⟨#[32]⟩) s=ws)(hlen:ws.length=N)(hN':N<=1000)
    (hR:eU N ws []=(R,c)) (KA:∀k kd,pE k=some kd->kd≠.turn->JH k kd) (KT:∀k,pE k=some .turn->k=yj) (RA:∀kd,kd≠.turn->Wo W ws kd) (RT:Wp W ws) (WA:∀kd,kd≠.turn->ML aT aB aS W ws kd) (WT:MM aT aB aS W ws):
    ax 198 #[.string s] W fun e w'=>((c=0/\∃v,e=.returned (.tuple #[v,.nilIface])/\w'.ownsRow (W.heap.size+1) 129 12 v R.length (jU R))\/(c≠0/\e=.returned (.tuple #[.slice none 0 0,.iface 390 (.pointer (some (eA aT aB aS c)))])))/\Below W.heap.size W w':=by
  have HS:=xw s hs W;rw[hw,hN] at HS;clear hs;obtain⟨i0,hi,hz0,hz1,hz2⟩:=info_parts Wm;go_enter func198,ntmps198;go_wp2_with(go_at_call 235;refine HS.mono ?_;rintro e w' ⟨rfl,rfl⟩)
  go_loopw [4,5] (fun lv wv wr=>∃(j r f:Nat) (acc:List Mv),j+r=N/\acc.length<=j/\(∃a,wv=.slice a r r/\(r≠0->a=some ⟨W.heap.size,j,none⟩))/\wr.ownsRow (W.heap.size+1) 129 12 lv acc.length (jU acc)/\dH wr W.heap.size (ws.map Value.string).toArray 9/\Below W.heap.size W wr/\r<=f/\eU f (ws.drop j) acc=(R,c)) (fun _ wv _=>lenOf wv)
  case atStart=>exact⟨0,N,N,[],by omega,by simp,⟨_,rfl,fun _=>rfl⟩,World.ownsRow_nil _ _ _ _,dH.new W _ _,(Below.refl _ W).alloc ai _,Nat.le_refl _,hR⟩
  case round=>
    obtain⟨j,r,f,acc,hjr,haj,⟨ad,rfl,had⟩,hown,hblk,hlow,hrf,hRf⟩:=hrel;cases r with
    |zero=>
      have hd:ws.drop j=[]:=List.drop_eq_nil_of_le (by omega);rw[hd] at hRf;have hacc:acc=R:=by cases f<;>exact congrArg Prod.fst hRf
      have hcc:c=0:=by cases f<;>exact(congrArg Prod.snd hRf).symm
      clear hRf;subst hacc hcc;go_wp2
      go_ret2
      exact⟨⟨_,rfl,hown⟩,hlow⟩
    |succ r=>
      obtain rfl:=had (by omega);clear had;obtain⟨k,hk,hd⟩:=drop_cons hlen hjr;rw[hd] at hRf;have abh:=RQ hRf (by omega);clear hRf hR;have c0:=fU hblk hk;clear hd;rcases abh with⟨hkd,rfl⟩|⟨kd,hkd,hnl,rfl⟩|⟨kd,hkd,hnl,hkr,hc⟩|⟨f',kd,m,hff,hkd,hnl,hkr,hRg⟩
      · obtain⟨q1,q2,q3,q4⟩:=a04 hkd
        have hKN:=fun V=>Jm k V q1 q2 q3 q4;clear q1 q2 q3 q4 KA RA RT WA WT;rcases Nat.eq_zero_or_pos r with rfl|hr1
        all_goals try have hr1':(1:Int)<=(r:Int):=by omega
        all_goals
          go_wp2_with(go_at_call 239;refine(hKN _).mono ?_;rintro e w1 ⟨rfl,hb1⟩;have L1:=hlow.trans (hb1.mono hlow.size));have L2:=L1.alloc L1.size (.cells #[aa 0,.nilFunc] 331);obtain⟨V,hV⟩:∃V,w1.alloc (.cells #[aa 0,.nilFunc] 331)=V:=⟨_,rfl⟩;rw[hV] at L2⊢;clear hV;have cT:=(hE.below L2 ai).t;clear hb1 hlow hblk hown c0 L1;go_region;go_wp2
          go_ret2
          exact⟨.inr ⟨by first|decide|exact hc,rfl⟩,below_drewN L2 1⟩
      · rw[List.length_drop] at hnl
        by_cases ht:kd=.turn
        · subst ht
          have hkt:=KT k hkd;subst hkt;rw[show Kd.turn.n=1 from rfl] at hnl;have hr0:r=0:=by omega
          subst hr0;clear KA RA RT WA WT;go_wp2_with(go_at_call 239;refine(qm _).mono ?_;rintro e w1 ⟨rfl,hb1⟩;have L1:=hlow.trans (hb1.mono hlow.size);have B1:=hblk.below hb1 ai);have L2:=L1.alloc L1.size (.cells #[aa 1,.func (.func 268) #[] #[]] 331);obtain⟨V,hV⟩:∃V,w1.alloc (.cells #[aa 1,.func (.func 268) #[] #[]] 331)=V:=⟨_,rfl⟩;rw[hV] at L2⊢;clear hV;have cT:=(hE.below L2 ai).t;clear hb1 hlow hblk hown c0 L1;go_region;go_wp2
          go_ret2
          exact⟨.inr ⟨by first|decide|exact hc,rfl⟩,below_drewN L2 1⟩
        · have hKA:=KA k kd hkd ht
          unfold JH at hKA;obtain⟨hn1,hn2⟩:=kd.n_pos;generalize kd.n=n at*;have hnr:r<n:=by omega
          have a05:(r:Int)<(n:Int):=by omega
          clear KA RA RT WA WT;rcases Nat.eq_zero_or_pos r with rfl|hr1
          all_goals try have hr1':(1:Int)<=(r:Int):=by omega
          all_goals
            go_wp2_with(go_at_call 239;refine(hKA _).mono ?_;rintro e w1 ⟨⟨B,hB,rfl,hBc⟩,hb1⟩;have L1:=hlow.trans (hb1.mono hlow.size);have B1:=hblk.below hb1 ai);have L2:=L1.alloc L1.size (.cells #[aa n,.func (.func 284) #[] #[ay B]] 331);obtain⟨V,hV⟩:∃V,w1.alloc (.cells #[aa n,.func (.func 284) #[] #[ay B]] 331)=V:=⟨_,rfl⟩;rw[hV] at L2⊢;clear hV;have cT:=(hE.below L2 ai).t;clear hb1 hlow hblk hown c0 L1;go_region;go_wp2
            go_ret2
            exact⟨.inr ⟨by first|decide|exact hc,rfl⟩,below_drewN L2 1⟩
      · rw[List.length_drop] at hnl
        by_cases ht:kd=.turn
        · subst ht
          have hkt:=KT k hkd;subst hkt;have hWT:=WT;unfold MM at hWT;rw[show Kd.turn.n=1 from rfl] at hnl;have hnr:1<=r:=by omega
          have a05:(1:Int)<=(r:Int):=by omega
          clear KA RA RT WA WT;go_wp2_with(go_at_call 239;refine(qm _).mono ?_;rintro e w1 ⟨rfl,hb1⟩;have L1:=hlow.trans (hb1.mono hlow.size);have B1:=hblk.below hb1 ai);have K2:=dH.new w1 #[aa 1,.func (.func 268) #[] #[]] 331;have L2:=L1.alloc L1.size (.cells #[aa 1,.func (.func 268) #[] #[]] 331);have B2:=B1.alloc (.cells #[aa 1,.func (.func 268) #[] #[]] 331);obtain⟨V,hV⟩:∃V,w1.alloc (.cells #[aa 1,.func (.func 268) #[] #[]] 331)=V:=⟨_,rfl⟩;have hVs:w1.heap.size<V.heap.size:=by rw[<- hV];simp
          rw[hV] at K2 L2 B2⊢;clear hV L1 B1 hb1;have hlt:=K2.lt;have L3:=L2.alloc L2.size (.cells zA 129);have L2d:Below W.heap.size W V.drew:=below_drewN L2 1;have L3d:Below W.heap.size W (V.alloc (.cells zA 129)).drew:=below_drewN L3 1;have B2d:=B2.drew;have B3d:=(B2.alloc (.cells zA 129)).drew;have HZ:∀u,Below (V.alloc (.cells zA 129)).drew.heap.size (V.alloc (.cells zA 129)).drew u->dH u V.heap.size zA 129:=fun u h=>ry h;have k0:=K2.cell 0 _ rfl;have k1:=K2.cell 1 _ rfl;have k0d:V.drew.cell? ⟨w1.heap.size,0,none⟩=some (aa 1):=k0;have k1d:V.drew.cell? ⟨w1.heap.size,1,none⟩=some (.func (.func 268) #[] #[]):=k1;have k0e:(V.alloc (.cells zA 129)).drew.cell? ⟨w1.heap.size,0,none⟩=some (aa 1):=au _ k0;have k1e:(V.alloc (.cells zA 129)).drew.cell? ⟨w1.heap.size,1,none⟩=some (.func (.func 268) #[] #[]):=au _ k1;have nv:w1.heap.size≠V.heap.size:=by omega
          have nv':¬V.heap.size=w1.heap.size:=by omega
          have hle:j+1+1<=ws.length:=by omega
          go_cut [8,9] from 14 to 56 (fun p v wx=>v=.iface 390 (.pointer (some (eA aT aB aS c)))/\(∃R,p=ay R)/\Below V.heap.size V wx)
          case first=>
            go_region_held3 (fun w'=>w'.cell? ⟨w1.heap.size,0,none⟩=some (aa 1)/\w'.cell? ⟨w1.heap.size,1,none⟩=some (.func (.func 268) #[] #[])) (refine⟨?_,?_⟩<;>(repeat rw[World.cell?_setCell_far _ _ _ _ nv'])<;>assumption) ((go_at_call 268;refine(hWT _ (j+1) _ c ?_ ?_ hle hkr hc).mono ?_;(first|exact L2d|exact L3d);(first|exact B2d|exact B3d);rintro e w3 ⟨rfl,hb3⟩;dsimp only[Mv.zero,Fr.zero];have hz3:=hb3.size;have hs3:=G8 hb3 (by assumption);obtain⟨j0,j1⟩:=hs3;have y0:=fun o=>au o j0;have y1:=fun o=>au o j1;have y4:=au (.cells zA 129) j0;have y5:=au (.cells zA 129) j1;(first|(have BZ:=HZ _ hb3;obtain⟨oV,El,oZ,Em,pg,Eo,pz,Ep,uC,Iy,uD,Iz,uF,IG,uG,II,uH,IJ,uI,IK,je,qh,jf,qi⟩:=BZ.six)|skip)))
            · go_wp2_with fail
              go_meet
              exact⟨rfl,⟨_,rfl⟩,(qD hb3).alloc hz3 _⟩
            · go_wp2_with fail
              go_meet
              have hb4:Below V.heap.size V w3:=((Below.refl V.heap.size V).alloc ai (.cells zA 129)).trans ((qD hb3).mono (by simp));exact⟨rfl,⟨_,rfl⟩,aQ (R:=V.heap.size) ai zL 0 hb4⟩
          case rest=>
            obtain⟨rfl,⟨R',rfl⟩,xP⟩:=hcut;go_wp2_with fail
            go_ret2
            exact⟨.inr ⟨by first|decide|exact hc,rfl⟩,L2.trans (xP.mono L2.size)⟩
        · have hKA:=KA k kd hkd ht
          have hWA:=WA kd ht;unfold JH at hKA;unfold ML at hWA;obtain⟨hn1,hn2⟩:=kd.n_pos;generalize kd.n=n at*;have hnr:n<=r:=by omega
          have a05:(n:Int)<=(r:Int):=by omega
          have hn0:(0:Int)<=(n:Int):=by omega
          clear KA RA RT WA WT;go_wp2_with(go_at_call 239;refine(hKA _).mono ?_;rintro e w1 ⟨⟨B,hB,rfl,hBc⟩,hb1⟩;have L1:=hlow.trans (hb1.mono hlow.size);have B1:=hblk.below hb1 ai);have K2:=dH.new w1 #[aa n,.func (.func 284) #[] #[ay B]] 331;have L2:=L1.alloc L1.size (.cells #[aa n,.func (.func 284) #[] #[ay B]] 331);have B2:=B1.alloc (.cells #[aa n,.func (.func 284) #[] #[ay B]] 331);obtain⟨V,hV⟩:∃V,w1.alloc (.cells #[aa n,.func (.func 284) #[] #[ay B]] 331)=V:=⟨_,rfl⟩;have hVs:w1.heap.size<V.heap.size:=by rw[<- hV];simp
          rw[hV] at K2 L2 B2⊢;clear hV L1 B1 hb1;have hlt:=K2.lt;have L3:=L2.alloc L2.size (.cells zA 129);have L2d:Below W.heap.size W V.drew:=below_drewN L2 1;have L3d:Below W.heap.size W (V.alloc (.cells zA 129)).drew:=below_drewN L3 1;have B2d:=B2.drew;have B3d:=(B2.alloc (.cells zA 129)).drew;have HZ:∀u,Below (V.alloc (.cells zA 129)).drew.heap.size (V.alloc (.cells zA 129)).drew u->dH u V.heap.size zA 129:=fun u h=>ry h;have k0:=K2.cell 0 _ rfl;have k1:=K2.cell 1 _ rfl;have k0d:V.drew.cell? ⟨w1.heap.size,0,none⟩=some (aa n):=k0;have k1d:V.drew.cell? ⟨w1.heap.size,1,none⟩=some (.func (.func 284) #[] #[ay B]):=k1;have k0e:(V.alloc (.cells zA 129)).drew.cell? ⟨w1.heap.size,0,none⟩=some (aa n):=au _ k0;have k1e:(V.alloc (.cells zA 129)).drew.cell? ⟨w1.heap.size,1,none⟩=some (.func (.func 284) #[] #[ay B]):=au _ k1;have nv:w1.heap.size≠V.heap.size:=by omega
          have nv':¬V.heap.size=w1.heap.size:=by omega
          have hle:j+1+n<=ws.length:=by omega
          go_cut [8,9] from 14 to 56 (fun p v wx=>v=.iface 390 (.pointer (some (eA aT aB aS c)))/\(∃R,p=ay R)/\Below V.heap.size V wx)
          case first=>
            go_region_held3 (fun w'=>w'.cell? ⟨w1.heap.size,0,none⟩=some (aa n)/\w'.cell? ⟨w1.heap.size,1,none⟩=some (.func (.func 284) #[] #[ay B])) (refine⟨?_,?_⟩<;>(repeat rw[World.cell?_setCell_far _ _ _ _ nv'])<;>assumption) ((go_at_call 284;refine(hWA _ (j+1) B _ c ?_ ?_ hle hkr hc).mono ?_;(first|exact L2d|exact L3d);(first|exact B2d|exact B3d);rintro e w3 ⟨rfl,hb3⟩;dsimp only[Mv.zero,Fr.zero];have hz3:=hb3.size;have hs3:=G8 hb3 (by assumption);obtain⟨j0,j1⟩:=hs3;have y0:=fun o=>au o j0;have y1:=fun o=>au o j1;have y4:=au (.cells zA 129) j0;have y5:=au (.cells zA 129) j1;(first|(have BZ:=HZ _ hb3;obtain⟨oV,El,oZ,Em,pg,Eo,pz,Ep,uC,Iy,uD,Iz,uF,IG,uG,II,uH,IJ,uI,IK,je,qh,jf,qi⟩:=BZ.six)|skip)))
            · go_wp2_with fail
              go_meet
              exact⟨rfl,⟨_,rfl⟩,(qD hb3).alloc hz3 _⟩
            · go_wp2_with fail
              go_meet
              have hb4:Below V.heap.size V w3:=((Below.refl V.heap.size V).alloc ai (.cells zA 129)).trans ((qD hb3).mono (by simp));exact⟨rfl,⟨_,rfl⟩,aQ (R:=V.heap.size) ai zL 0 hb4⟩
          case rest=>
            obtain⟨rfl,⟨R',rfl⟩,xP⟩:=hcut;go_wp2_with fail
            go_ret2
            exact⟨.inr ⟨by first|decide|exact hc,rfl⟩,L2.trans (xP.mono L2.size)⟩
      · rw[List.length_drop] at hnl
        by_cases ht:kd=.turn
        · subst ht
          have hkt:=KT k hkd;subst hkt;have hRT:=RT;unfold Wp at hRT;rw[show Kd.turn.n=1 from rfl] at hnl hRg;have hnr:1<=r:=by omega
          have a05:(1:Int)<=(r:Int):=by omega
          clear KA RA RT WA WT;go_wp2_with(go_at_call 239;refine(qm _).mono ?_;rintro e w1 ⟨rfl,hb1⟩;have L1:=hlow.trans (hb1.mono hlow.size);have B1:=hblk.below hb1 ai;have O1:=ownsRow_below hown hb1);have K2:=dH.new w1 #[aa 1,.func (.func 268) #[] #[]] 331;have L2:=L1.alloc L1.size (.cells #[aa 1,.func (.func 268) #[] #[]] 331);have B2:=B1.alloc (.cells #[aa 1,.func (.func 268) #[] #[]] 331);have O2:=O1.alloc (.cells #[aa 1,.func (.func 268) #[] #[]] 331);have q1:=hb1.size;obtain⟨V,hV⟩:∃V,w1.alloc (.cells #[aa 1,.func (.func 268) #[] #[]] 331)=V:=⟨_,rfl⟩;have hVs:w1.heap.size<V.heap.size:=by rw[<- hV];simp
          rw[hV] at K2 L2 B2 O2⊢;clear hV L1 B1 O1 hb1;have hlt:=K2.lt;have hOh:=Wn hown;have hOl:=Mi hown;have L3:=L2.alloc L2.size (.cells zA 129);have L2d:Below W.heap.size W V.drew:=below_drewN L2 1;have L3d:Below W.heap.size W (V.alloc (.cells zA 129)).drew:=below_drewN L3 1;have B2d:=B2.drew;have B3d:=(B2.alloc (.cells zA 129)).drew;have HZ:∀u,Below (V.alloc (.cells zA 129)).drew.heap.size (V.alloc (.cells zA 129)).drew u->dH u V.heap.size zA 129:=fun u h=>ry h;have k0:=K2.cell 0 _ rfl;have k1:=K2.cell 1 _ rfl;have k0d:V.drew.cell? ⟨w1.heap.size,0,none⟩=some (aa 1):=k0;have k1d:V.drew.cell? ⟨w1.heap.size,1,none⟩=some (.func (.func 268) #[] #[]):=k1;have k0e:(V.alloc (.cells zA 129)).drew.cell? ⟨w1.heap.size,0,none⟩=some (aa 1):=au _ k0;have k1e:(V.alloc (.cells zA 129)).drew.cell? ⟨w1.heap.size,1,none⟩=some (.func (.func 268) #[] #[]):=au _ k1;have nv:w1.heap.size≠V.heap.size:=by omega
          have nv':¬V.heap.size=w1.heap.size:=by omega
          have hle:j+1+1<=ws.length:=by omega
          go_cut [8,9] from 14 to 56 (fun p v wx=>v=.nilIface/\∃R,p=ay R/\V.heap.size<=R/\(∀j u,(mL m)[j]? =some u->wx.cell? (ak R j)=some u)/\Below V.heap.size V wx)
          case first=>
            go_region_held3 (fun w'=>w'.cell? ⟨w1.heap.size,0,none⟩=some (aa 1)/\w'.cell? ⟨w1.heap.size,1,none⟩=some (.func (.func 268) #[] #[])) (refine⟨?_,?_⟩<;>(repeat rw[World.cell?_setCell_far _ _ _ _ nv'])<;>assumption) ((go_at_call 268;refine(hRT _ (j+1) _ m ?_ ?_ hle hkr).mono ?_;(first|exact L2d|exact L3d);(first|exact B2d|exact B3d);rintro e w3 ⟨rfl,hb3⟩;have hz3:=hb3.size;have hs3:=G8 hb3 (by assumption);obtain⟨j0,j1⟩:=hs3;have y0:=fun o=>au o j0;have y1:=fun o=>au o j1;have y2:=au (.cells (mA m) 129) j0;have y3:=au (.cells (mA m) 129) j1;have y4:=au (.cells zA 129) j0;have y5:=au (.cells zA 129) j1;(first|(have BZ:=HZ _ hb3;obtain⟨oV,El,oZ,Em,pg,Eo,pz,Ep,uC,Iy,uD,Iz,uF,IG,uG,II,uH,IJ,uI,IK,je,qh,jf,qi⟩:=BZ.six)|skip)))
            · go_wp2_with fail
              go_meet
              exact⟨rfl,w3.heap.size,rfl,hz3,Px (cs:=(mL m)),(qD hb3).alloc hz3 _⟩
            · go_wp2_with fail
              go_meet
              have hb4:Below V.heap.size V w3:=((Below.refl V.heap.size V).alloc ai (.cells zA 129)).trans ((qD hb3).mono (by simp));have hat:=G7 (R:=V.heap.size) (mL m) 0 w3 (fun i hi=>JF BZ i hi);simp only[Nat.zero_add] at hat;exact⟨rfl,V.heap.size,rfl,Nat.le_refl _,hat,aQ (R:=V.heap.size) ai (mL m) 0 hb4⟩
          case rest=>
            obtain⟨rfl,R',rfl,hR',hcells,xP⟩:=hcut;have KC:=K2.below xP ai;have kk:=KC.cell 0 _ rfl;have LC:=L2.trans (xP.mono L2.size);have BC:=B2.below xP ai;have OC:=((ownsRow_below O2 xP).alloc (.cells (mA m) 129));have OCd:(wc.alloc (.cells (mA m) 129)).drew.ownsRow (W.heap.size+1) 129 12 u4 acc.length (jU acc):=OC;obtain⟨m0,m1,m2,m3,m4,m5,m6,m7,m8,m9,m10,m11⟩:=And.intro (hcells 0 _ rfl) (And.intro (hcells 1 _ rfl) (And.intro (hcells 2 _ rfl) (And.intro (hcells 3 _ rfl) (And.intro (hcells 4 _ rfl) (And.intro (hcells 5 _ rfl) (And.intro (hcells 6 _ rfl) (And.intro (hcells 7 _ rfl) (And.intro (hcells 8 _ rfl) (And.intro (hcells 9 _ rfl) (And.intro (hcells 10 _ rfl) (hcells 11 _ rfl)))))))))));have szC:=xP.size;clear hcells k0 k1 k0d k1d k0e k1e HZ L2d L3d L3 B2d B3d OC;have H0:=World.alloc_heap_new wc (.cells (mA m) 129);go_wp2_with fail
            go_region_held3 (fun w'=>w'.cell? (ak R' 0)=some (aa m.a.n)/\w'.cell? (ak R' 1)=some (aa m.a.d)/\w'.cell? (ak R' 2)=some (aa m.b.n)/\w'.cell? (ak R' 3)=some (aa m.b.d)/\w'.cell? (ak R' 4)=some (aa m.c.n)/\w'.cell? (ak R' 5)=some (aa m.c.d)/\w'.cell? (ak R' 6)=some (aa m.d.n)/\w'.cell? (ak R' 7)=some (aa m.d.d)/\w'.cell? (ak R' 8)=some (aa m.e.n)/\w'.cell? (ak R' 9)=some (aa m.e.d)/\w'.cell? (ak R' 10)=some (aa m.f.n)/\w'.cell? (ak R' 11)=some (aa m.f.d)/\w'.cell? ⟨w1.heap.size,0,none⟩=some (aa 1)) (refine⟨?_,?_,?_,?_,?_,?_,?_,?_,?_,?_,?_,?_,?_⟩<;>first|assumption|exact au _ (by assumption)|exact hA _ _ (by assumption) (by simp only;omega)) ((refine step_append_lies _ rfl (.tmp 49) (.tmp 51) 277 rfl (W.heap.size+1) 129 i0 (.agg zA) 12 96 underlying277 hi hz0 hz1 hz2 rfl (by decide) u4 acc.length (jU acc) rfl OCd ⟨wc.heap.size,0,none⟩ 1 1 (mL m) rfl rfl (World.news_of_block (w:=(wc.alloc (.cells (mA m) 129)).drew) (cs:=(mA m)) H0) a1U (by decide) (by unfold maxLen;omega) (by omega) (by have:=LC.size;simp;omega) _ rfl ?_;intro g cap w5 hown5 hgrow hat MN;have hgr:World.grownBy (wc.alloc (.cells (mA m) 129)).drew w5 u4.ownBlock:=hgrow;have hA:∀p v,wc.cell? p=some v->(p.block=W.heap.size\/w1.heap.size<=p.block)->w5.cell? p=some v:=(fun p v h hp=>(hgr.cell_far p (by have:=aC h;simp;omega) (fun e=>by have:=hOh _ e.symm;have:=hOl _ e.symm;have:=q1;omega)).trans (au (W:=wc) _ h))))
            go_wp2_with fail;rw[List.drop_drop] at hRg;refine⟨⟨j+1+1,r-1,f',acc++[m],by omega,by simp;omega,⟨_,rfl,fun h=>by rw[if_neg (by omega)]⟩,by rw[List.length_append,yC];exact hown5,((BC.alloc (.cells (mA m) 129)).drew).grown hgr (fun e=>by have:=hOl _ e;omega),(below_drewN (LC.alloc LC.size (.cells (mA m) 129)) 1).grown hgr (by have:=LC.size;simp;omega) (fun k e=>by have:=hOl k e;omega),by omega,hRg⟩,by simp only[lenOf];omega⟩
        · have hKA:=KA k kd hkd ht
          have hRA:=RA kd ht;unfold JH at hKA;unfold Wo at hRA;obtain⟨hn1,hn2⟩:=kd.n_pos;generalize kd.n=n at*;have hnr:n<=r:=by omega
          have a05:(n:Int)<=(r:Int):=by omega
          have hn0:(0:Int)<=(n:Int):=by omega
          clear KA RA RT WA WT;go_wp2_with(go_at_call 239;refine(hKA _).mono ?_;rintro e w1 ⟨⟨B,hB,rfl,hBc⟩,hb1⟩;have L1:=hlow.trans (hb1.mono hlow.size);have B1:=hblk.below hb1 ai;have O1:=ownsRow_below hown hb1);have C2:=au (.cells #[aa n,.func (.func 284) #[] #[ay B]] 331) hBc;have K2:=dH.new w1 #[aa n,.func (.func 284) #[] #[ay B]] 331;have L2:=L1.alloc L1.size (.cells #[aa n,.func (.func 284) #[] #[ay B]] 331);have B2:=B1.alloc (.cells #[aa n,.func (.func 284) #[] #[ay B]] 331);have O2:=O1.alloc (.cells #[aa n,.func (.func 284) #[] #[ay B]] 331);have q1:=hb1.size;obtain⟨V,hV⟩:∃V,w1.alloc (.cells #[aa n,.func (.func 284) #[] #[ay B]] 331)=V:=⟨_,rfl⟩;have hVs:w1.heap.size<V.heap.size:=by rw[<- hV];simp
          rw[hV] at K2 L2 B2 O2 C2⊢;clear hV L1 B1 O1 hb1 hBc;have hlt:=K2.lt;have hOh:=Wn hown;have hOl:=Mi hown;have L3:=L2.alloc L2.size (.cells zA 129);have L2d:Below W.heap.size W V.drew:=below_drewN L2 1;have L3d:Below W.heap.size W (V.alloc (.cells zA 129)).drew:=below_drewN L3 1;have B2d:=B2.drew;have B3d:=(B2.alloc (.cells zA 129)).drew;have C2d:V.drew.cell? (ak B 0)=some (.func (.func kd.f) #[] #[]):=C2;have C3d:(V.alloc (.cells zA 129)).drew.cell? (ak B 0)=some (.func (.func kd.f) #[] #[]):=au _ C2;have HZ:∀u,Below (V.alloc (.cells zA 129)).drew.heap.size (V.alloc (.cells zA 129)).drew u->dH u V.heap.size zA 129:=fun u h=>ry h;have k0:=K2.cell 0 _ rfl;have k1:=K2.cell 1 _ rfl;have k0d:V.drew.cell? ⟨w1.heap.size,0,none⟩=some (aa n):=k0;have k1d:V.drew.cell? ⟨w1.heap.size,1,none⟩=some (.func (.func 284) #[] #[ay B]):=k1;have k0e:(V.alloc (.cells zA 129)).drew.cell? ⟨w1.heap.size,0,none⟩=some (aa n):=au _ k0;have k1e:(V.alloc (.cells zA 129)).drew.cell? ⟨w1.heap.size,1,none⟩=some (.func (.func 284) #[] #[ay B]):=au _ k1;have nv:w1.heap.size≠V.heap.size:=by omega
          have nv':¬V.heap.size=w1.heap.size:=by omega
          have hle:j+1+n<=ws.length:=by omega
          go_cut [8,9] from 14 to 56 (fun p v wx=>v=.nilIface/\∃R,p=ay R/\V.heap.size<=R/\(∀j u,(mL m)[j]? =some u->wx.cell? (ak R j)=some u)/\Below V.heap.size V wx)
          case first=>
            go_region_held3 (fun w'=>w'.cell? ⟨w1.heap.size,0,none⟩=some (aa n)/\w'.cell? ⟨w1.heap.size,1,none⟩=some (.func (.func 284) #[] #[ay B])) (refine⟨?_,?_⟩<;>(repeat rw[World.cell?_setCell_far _ _ _ _ nv'])<;>assumption) ((go_at_call 284;refine(hRA _ (j+1) B _ m ?_ ?_ ?_ hle hkr).mono ?_;(first|exact L2d|exact L3d);(first|exact B2d|exact B3d);(first|exact C2d|exact C3d);rintro e w3 ⟨rfl,hb3⟩;have hz3:=hb3.size;have hs3:=G8 hb3 (by assumption);obtain⟨j0,j1⟩:=hs3;have y0:=fun o=>au o j0;have y1:=fun o=>au o j1;have y2:=au (.cells (mA m) 129) j0;have y3:=au (.cells (mA m) 129) j1;have y4:=au (.cells zA 129) j0;have y5:=au (.cells zA 129) j1;(first|(have BZ:=HZ _ hb3;obtain⟨oV,El,oZ,Em,pg,Eo,pz,Ep,uC,Iy,uD,Iz,uF,IG,uG,II,uH,IJ,uI,IK,je,qh,jf,qi⟩:=BZ.six)|skip)))
            · go_wp2_with fail
              go_meet
              exact⟨rfl,w3.heap.size,rfl,hz3,Px (cs:=(mL m)),(qD hb3).alloc hz3 _⟩
            · go_wp2_with fail
              go_meet
              have hb4:Below V.heap.size V w3:=((Below.refl V.heap.size V).alloc ai (.cells zA 129)).trans ((qD hb3).mono (by simp));have hat:=G7 (R:=V.heap.size) (mL m) 0 w3 (fun i hi=>JF BZ i hi);simp only[Nat.zero_add] at hat;exact⟨rfl,V.heap.size,rfl,Nat.le_refl _,hat,aQ (R:=V.heap.size) ai (mL m) 0 hb4⟩
          case rest=>
            obtain⟨rfl,R',rfl,hR',hcells,xP⟩:=hcut;have KC:=K2.below xP ai;have kk:=KC.cell 0 _ rfl;have LC:=L2.trans (xP.mono L2.size);have BC:=B2.below xP ai;have OC:=((ownsRow_below O2 xP).alloc (.cells (mA m) 129));have OCd:(wc.alloc (.cells (mA m) 129)).drew.ownsRow (W.heap.size+1) 129 12 u4 acc.length (jU acc):=OC;obtain⟨m0,m1,m2,m3,m4,m5,m6,m7,m8,m9,m10,m11⟩:=And.intro (hcells 0 _ rfl) (And.intro (hcells 1 _ rfl) (And.intro (hcells 2 _ rfl) (And.intro (hcells 3 _ rfl) (And.intro (hcells 4 _ rfl) (And.intro (hcells 5 _ rfl) (And.intro (hcells 6 _ rfl) (And.intro (hcells 7 _ rfl) (And.intro (hcells 8 _ rfl) (And.intro (hcells 9 _ rfl) (And.intro (hcells 10 _ rfl) (hcells 11 _ rfl)))))))))));have szC:=xP.size;clear hcells k0 k1 k0d k1d k0e k1e HZ L2d L3d L3 B2d B3d OC;have H0:=World.alloc_heap_new wc (.cells (mA m) 129);go_wp2_with fail
            go_region_held3 (fun w'=>w'.cell? (ak R' 0)=some (aa m.a.n)/\w'.cell? (ak R' 1)=some (aa m.a.d)/\w'.cell? (ak R' 2)=some (aa m.b.n)/\w'.cell? (ak R' 3)=some (aa m.b.d)/\w'.cell? (ak R' 4)=some (aa m.c.n)/\w'.cell? (ak R' 5)=some (aa m.c.d)/\w'.cell? (ak R' 6)=some (aa m.d.n)/\w'.cell? (ak R' 7)=some (aa m.d.d)/\w'.cell? (ak R' 8)=some (aa m.e.n)/\w'.cell? (ak R' 9)=some (aa m.e.d)/\w'.cell? (ak R' 10)=some (aa m.f.n)/\w'.cell? (ak R' 11)=some (aa m.f.d)/\w'.cell? ⟨w1.heap.size,0,none⟩=some (aa n)) (refine⟨?_,?_,?_,?_,?_,?_,?_,?_,?_,?_,?_,?_,?_⟩<;>first|assumption|exact au _ (by assumption)|exact hA _ _ (by assumption) (by simp only;omega)) ((refine step_append_lies _ rfl (.tmp 49) (.tmp 51) 277 rfl (W.heap.size+1) 129 i0 (.agg zA) 12 96 underlying277 hi hz0 hz1 hz2 rfl (by decide) u4 acc.length (jU acc) rfl OCd ⟨wc.heap.size,0,none⟩ 1 1 (mL m) rfl rfl (World.news_of_block (w:=(wc.alloc (.cells (mA m) 129)).drew) (cs:=(mA m)) H0) a1U (by decide) (by unfold maxLen;omega) (by omega) (by have:=LC.size;simp;omega) _ rfl ?_;intro g cap w5 hown5 hgrow hat MN;have hgr:World.grownBy (wc.alloc (.cells (mA m) 129)).drew w5 u4.ownBlock:=hgrow;have hA:∀p v,wc.cell? p=some v->(p.block=W.heap.size\/w1.heap.size<=p.block)->w5.cell? p=some v:=(fun p v h hp=>(hgr.cell_far p (by have:=aC h;simp;omega) (fun e=>by have:=hOh _ e.symm;have:=hOl _ e.symm;have:=q1;omega)).trans (au (W:=wc) _ h))))
            go_wp2_with fail;rw[List.drop_drop] at hRg;refine⟨⟨j+1+n,r-n,f',acc++[m],by omega,by simp;omega,⟨_,rfl,fun h=>by rw[if_neg (by omega)]⟩,by rw[List.length_append,yC];exact hown5,((BC.alloc (.cells (mA m) 129)).drew).grown hgr (fun e=>by have:=hOl _ e;omega),(below_drewN (LC.alloc LC.size (.cells (mA m) 129)) 1).grown hgr (by have:=LC.size;simp;omega) (fun k e=>by have:=hOl k e;omega),by omega,hRg⟩,by simp only[lenOf];omega⟩
end
end Go.Proofs.YtjfiehbcamfdfaaGreatDoor
